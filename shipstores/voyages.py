"""Calls on one ship, written one behind another into a list of numbers, and their answers."""

from shipstores.changes import sd_days, sd_give, sd_good, sd_load
from shipstores.changes import sd_persons, sd_port, sd_ration, sd_start
from shipstores.history import sd_again, sd_back, sd_state
from shipstores.looks import sd_next, sd_room, sd_short, sd_who
from shipstores.questions import sd_enough, sd_lasts, sd_least, sd_look, sd_lot
from shipstores.questions import sd_need, sd_spoils, sd_stock, sd_sums
from shipstores.ships import Ship

START = 0
GOOD = 1
PERSONS = 2
PORT = 3
LOAD = 4
GIVE = 5
RATION = 6
DAYS = 7
LASTS = 8
LEAST = 9
ENOUGH = 10
NEED = 11
SPOILS = 12
STOCK = 13
LOT = 14
LOOK = 15
WHO = 16
NEXT = 17
SHORT = 18
ROOM = 19
SUMS = 20
BACK = 21
AGAIN = 22
STATE = 23

# How many numbers stand behind each call's own number.
NUMBERS_BEHIND = (3, 2, 2, 2, 2, 2, 2, 1, 1, 1, 2, 3, 1, 1, 2, 1, 1, 0, 0, 0, 1, 0, 0, 0)


def answers(calls):
    ship = Ship()
    told = []
    at = 0
    while at < len(calls):
        behind = at + 1 + NUMBERS_BEHIND[calls[at]]
        answer = answer_of_call(ship, calls[at], calls[at + 1:behind])
        told.append(len(answer))
        told.extend(answer)
        at = behind
    return told


def answer_of_call(ship, call, given):
    if call == START:
        return sd_start(ship, given[0], given[1], given[2])
    if call <= DAYS:
        return answer_of_change(ship, call, given)
    if call >= BACK:
        return answer_of_history(ship, call)
    if call in (WHO, NEXT, SHORT, ROOM):
        return answer_of_look(ship.voyage, call, given)
    return answer_of_question(ship.voyage, call, given)


def answer_of_change(ship, call, given):
    if call == GOOD:
        return sd_good(ship, given[0], given[1])
    if call == PERSONS:
        return sd_persons(ship, given[0], given[1])
    if call == PORT:
        return sd_port(ship, given[0], given[1])
    if call == LOAD:
        return sd_load(ship, given[0], given[1])
    if call == GIVE:
        return sd_give(ship, given[0], given[1])
    if call == RATION:
        return sd_ration(ship, given[0], given[1])
    return sd_days(ship, given[0])


def answer_of_question(voyage, call, given):
    if call == LASTS:
        return sd_lasts(voyage, given[0])
    if call == LEAST:
        return sd_least(voyage, given[0])
    if call == ENOUGH:
        return sd_enough(voyage, given[0], given[1])
    if call == NEED:
        return sd_need(voyage, given[0], given[1], given[2])
    if call == SPOILS:
        return sd_spoils(voyage, given[0])
    if call == STOCK:
        return sd_stock(voyage, given[0])
    if call == LOT:
        return sd_lot(voyage, given[0], given[1])
    if call == LOOK:
        return sd_look(voyage, given[0])
    return sd_sums(voyage, given[0])


def answer_of_look(voyage, call, given):
    if call == WHO:
        return sd_who(voyage, given[0])
    if call == NEXT:
        return sd_next(voyage)
    if call == SHORT:
        return sd_short(voyage)
    return sd_room(voyage)


def answer_of_history(ship, call):
    if call == BACK:
        return sd_back(ship)
    if call == AGAIN:
        return sd_again(ship)
    return sd_state(ship)
