"""The start, and the calls that change the voyage: each answers its list of numbers."""

from shipstores.goods import Good, give, live_day, load, lots_if_loaded
from shipstores.limits import LATEST_LAST, MOST_DAYS, MOST_GOODS, MOST_LIFE
from shipstores.limits import MOST_LOTS, MOST_PER, MOST_PERSONS, MOST_UNITS
from shipstores.lots import units_in
from shipstores.refusals import ALREADY_SO, LESS_THERE, NO_PORT, NO_ROOM
from shipstores.refusals import NOT_AS_TOLD, NOT_THERE, TOO_LATE, TOO_MANY
from shipstores.ships import Voyage, begin_change, begin_voyage, bits_of, has_good
from shipstores.ships import next_port, port_sign, room_left


def sd_start(ship, last, room, persons):
    if last < 1 or last > LATEST_LAST or room < 1 or room > MOST_UNITS or persons > MOST_PERSONS:
        return [NOT_AS_TOLD]
    begin_voyage(ship, Voyage(last, room, persons))
    return [0]


def sd_good(ship, per, life):
    if per < 1 or per > MOST_PER or life < 1 or life > MOST_LIFE:
        return [NOT_AS_TOLD]
    if len(ship.voyage.goods) == MOST_GOODS:
        return [TOO_MANY]
    voyage = begin_change(ship)
    voyage.goods.append(Good(per, life))
    return [len(voyage.goods) - 1]


def sd_persons(ship, day, n):
    if day < ship.voyage.today or day > ship.voyage.last or n > MOST_PERSONS:
        return [NOT_AS_TOLD]
    voyage = begin_change(ship)
    before = voyage.persons[day]
    voyage.persons[day] = n
    return [before]


def sd_port(ship, day, yes):
    if day <= ship.voyage.today or day > ship.voyage.last or yes > 1:
        return [NOT_AS_TOLD]
    if ship.voyage.ports[day] == yes:
        return [ALREADY_SO]
    voyage = begin_change(ship)
    voyage.ports[day] = yes
    return [next_port(voyage)]


def sd_load(ship, g, n):
    if not has_good(ship.voyage, g):
        return [NOT_THERE]
    if n == 0:
        return [NOT_AS_TOLD]
    if port_sign(ship.voyage) == 0:
        return [NO_PORT]
    good = ship.voyage.goods[g]
    if n > room_left(ship.voyage) or good.loaded + n > MOST_UNITS:
        return [NO_ROOM]
    if len(lots_if_loaded(good, ship.voyage.today, n)) > MOST_LOTS:
        return [TOO_MANY]
    voyage = begin_change(ship)
    changed = voyage.goods[g]
    load(changed, voyage.today, n)
    return [units_in(changed.lots), changed.lots[-1].until]


def sd_give(ship, g, n):
    if not has_good(ship.voyage, g):
        return [NOT_THERE]
    if n == 0:
        return [NOT_AS_TOLD]
    if units_in(ship.voyage.goods[g].lots) < n:
        return [LESS_THERE]
    changed = begin_change(ship).goods[g]
    give(changed, n)
    return [units_in(changed.lots)]


def sd_ration(ship, g, per):
    if not has_good(ship.voyage, g):
        return [NOT_THERE]
    if per < 1 or per > MOST_PER:
        return [NOT_AS_TOLD]
    changed = begin_change(ship).goods[g]
    before = changed.per
    changed.per = per
    return [before]


def sd_days(ship, n):
    if n < 1 or n > MOST_DAYS:
        return [NOT_AS_TOLD]
    if ship.voyage.today + n > ship.voyage.last + 1:
        return [TOO_LATE]
    voyage = begin_change(ship)
    lacked_before = [good.lacked for good in voyage.goods]
    for passed in range(n):
        end_today(voyage)
    lacking = [good.lacked > before for good, before in zip(voyage.goods, lacked_before)]
    return [voyage.today, bits_of(lacking), port_sign(voyage)]


def end_today(voyage):
    for good in voyage.goods:
        live_day(good, voyage.persons[voyage.today] * good.per, voyage.today)
    voyage.today += 1
