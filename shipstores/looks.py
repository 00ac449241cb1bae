"""The calls that only ask, and of the whole voyage: each answers its list of numbers."""

from shipstores.refusals import NOT_AS_TOLD
from shipstores.ships import bits_of, lacks_up_to, next_port, port_sign, room_left, units_aboard


def sd_who(voyage, day):
    if day > voyage.last:
        return [NOT_AS_TOLD]
    return [voyage.persons[day], voyage.ports[day]]


def sd_next(voyage):
    return [next_port(voyage), voyage.today, port_sign(voyage)]


def sd_short(voyage):
    port = next_port(voyage)
    short = [any(lacks_up_to(voyage, good, port)) for good in voyage.goods]
    return [short.count(True), bits_of(short)]


def sd_room(voyage):
    return [room_left(voyage), units_aboard(voyage)]
