"""The calls that only ask, and of one good: each answers its list of numbers."""

from shipstores.goods import copy_of_good, load, spoils_in_days
from shipstores.limits import MOST_UNITS
from shipstores.lots import units_in
from shipstores.refusals import NEVER, NO_LOT, NOT_AS_TOLD, NOT_THERE
from shipstores.ships import has_good, lacks_up_to, needs_by_day, next_port


def sd_lasts(voyage, g):
    if not has_good(voyage, g):
        return [NOT_THERE]
    lacks = lacks_up_to(voyage, voyage.goods[g], voyage.last + 1)
    for passed, lack in enumerate(lacks):
        if lack > 0:
            return [voyage.today + passed]
    return [NEVER]


def sd_least(voyage, g):
    if not has_good(voyage, g):
        return [NOT_THERE]
    good = voyage.goods[g]
    port = next_port(voyage)
    lacks = lacks_up_to(voyage, good, port)
    # What is loaded today is eaten last, so it has to fill just these lacks, as long as it is good.
    if any(lacks[good.life + 1:]):
        return [NEVER]
    return [sum(lacks), port]


def sd_enough(voyage, g, n):
    if not has_good(voyage, g):
        return [NOT_THERE]
    if n > MOST_UNITS:
        return [NOT_AS_TOLD]
    trial = copy_of_good(voyage.goods[g])
    if n > 0:
        load(trial, voyage.today, n)
    if any(lacks_up_to(voyage, trial, next_port(voyage))):
        return [0]
    return [1]


def sd_need(voyage, g, a, b):
    if not has_good(voyage, g):
        return [NOT_THERE]
    if b < a or b > voyage.last + 1:
        return [NOT_AS_TOLD]
    return [sum(needs_by_day(voyage, voyage.goods[g], a, b))]


def sd_spoils(voyage, g):
    if not has_good(voyage, g):
        return [NOT_THERE]
    good = voyage.goods[g]
    needs = needs_by_day(voyage, good, voyage.today, next_port(voyage))
    return [spoils_in_days(good, voyage.today, needs)]


def sd_stock(voyage, g):
    if not has_good(voyage, g):
        return [NOT_THERE]
    lots = voyage.goods[g].lots
    return [units_in(lots), len(lots)]


def sd_lot(voyage, g, i):
    if not has_good(voyage, g):
        return [NOT_THERE]
    lots = voyage.goods[g].lots
    if i >= len(lots):
        return [NO_LOT]
    return [lots[i].amount, lots[i].until]


def sd_look(voyage, g):
    if not has_good(voyage, g):
        return [NOT_THERE]
    return [voyage.goods[g].per, voyage.goods[g].life]


def sd_sums(voyage, g):
    if not has_good(voyage, g):
        return [NOT_THERE]
    good = voyage.goods[g]
    return [good.loaded, units_in(good.lots), good.eaten, good.spoilt, good.given, good.lacked]
