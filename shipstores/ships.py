"""The voyage as it stands, and the ship that keeps it with what can be taken back."""

from shipstores.goods import copy_of_good, lacks_by_day
from shipstores.limits import MOST_BACK
from shipstores.lots import units_in


class Voyage:
    """Days 0 to the last one; persons and ports are told for each of them."""

    def __init__(self, last, room, persons):
        self.last = last
        self.room = room
        self.today = 0
        self.persons = [persons] * (last + 1)
        self.ports = [1] + [0] * last
        self.goods = []


class Ship:
    """The voyage, those before its last changes, and those that were taken back.

    A voyage is changed only while its change is made, never when it is kept behind another.
    """

    def __init__(self):
        self.voyage = None
        self.past = []
        self.undone = []


def copy_of_voyage(voyage):
    copied = Voyage(voyage.last, voyage.room, 0)
    copied.today = voyage.today
    copied.persons = list(voyage.persons)
    copied.ports = list(voyage.ports)
    copied.goods = [copy_of_good(good) for good in voyage.goods]
    return copied


def begin_voyage(ship, voyage):
    ship.voyage = voyage
    ship.past = []
    ship.undone = []


def begin_change(ship):
    """The voyage that may now be changed; only a call that is not refused may ask for it."""
    before = ship.past + [ship.voyage]
    ship.past = before[-MOST_BACK:]
    ship.undone = []
    ship.voyage = copy_of_voyage(ship.voyage)
    return ship.voyage


def take_back(ship):
    ship.undone.append(ship.voyage)
    ship.voyage = ship.past.pop()


def do_again(ship):
    ship.past.append(ship.voyage)
    ship.voyage = ship.undone.pop()


def has_good(voyage, g):
    return g < len(voyage.goods)


def port_sign(voyage):
    """1 if today is a port, else 0: the day behind the last is none of the days, so no port."""
    if voyage.today > voyage.last:
        return 0
    return voyage.ports[voyage.today]


def next_port(voyage):
    for day in range(voyage.today + 1, voyage.last + 1):
        if voyage.ports[day] == 1:
            return day
    return voyage.last + 1


def units_aboard(voyage):
    return sum([units_in(good.lots) for good in voyage.goods])


def room_left(voyage):
    return voyage.room - units_aboard(voyage)


def needs_by_day(voyage, good, first, behind):
    """What is needed on each day from the first one up to the day behind them."""
    return [voyage.persons[day] * good.per for day in range(first, behind)]


def lacks_up_to(voyage, good, behind):
    """How much of the good lacks on each day from today up to the day behind them."""
    return lacks_by_day(good, voyage.today, needs_by_day(voyage, good, voyage.today, behind))


def bits_of(signs):
    bits = 0
    worth = 1
    for sign in signs:
        if sign:
            bits += worth
        worth *= 2
    return bits
