"""Calls on one ship, written one behind another into a list of numbers, and their answers."""

from shipstores.changes import sd_days, sd_give, sd_good, sd_load
from shipstores.changes import sd_persons, sd_port, sd_ration, sd_start
from shipstores.questions import sd_enough, sd_lasts, sd_least, sd_need
from shipstores.ships import Ship

START = 0
GOOD = 1
PERSONS = 2
PORT = 3
LOAD = 4
GIVE = 5
RATION = 6
DAYS = 7
LASTS = 8
LEAST = 9
ENOUGH = 10

# How many numbers stand behind each call's own number.
NUMBERS_BEHIND = (3, 2, 2, 2, 2, 2, 2, 1, 1, 1, 2, 3)


def answers(calls):
    ship = Ship()
    told = []
    at = 0
    while at < len(calls):
        behind = at + 1 + NUMBERS_BEHIND[calls[at]]
        answer = answer_of_call(ship, calls[at], calls[at + 1:behind])
        told.append(len(answer))
        told.extend(answer)
        at = behind
    return told


def answer_of_call(ship, call, given):
    if call == START:
        return sd_start(ship, given[0], given[1], given[2])
    if call <= DAYS:
        return answer_of_change(ship, call, given)
    return answer_of_question(ship.voyage, call, given)


def answer_of_change(ship, call, given):
    if call == GOOD:
        return sd_good(ship, given[0], given[1])
    if call == PERSONS:
        return sd_persons(ship, given[0], given[1])
    if call == PORT:
        return sd_port(ship, given[0], given[1])
    if call == LOAD:
        return sd_load(ship, given[0], given[1])
    if call == GIVE:
        return sd_give(ship, given[0], given[1])
    if call == RATION:
        return sd_ration(ship, given[0], given[1])
    return sd_days(ship, given[0])


def answer_of_question(voyage, call, given):
    if call == LASTS:
        return sd_lasts(voyage, given[0])
    if call == LEAST:
        return sd_least(voyage, given[0])
    if call == ENOUGH:
        return sd_enough(voyage, given[0], given[1])
    return sd_need(voyage, given[0], given[1], given[2])
