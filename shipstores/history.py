"""The calls that take changes back and do them again, and the one that tells how many there are of these."""

from shipstores.refusals import NOT_THERE
from shipstores.ships import do_again, take_back


def sd_back(ship):
    if not ship.past:
        return [NOT_THERE]
    take_back(ship)
    return [len(ship.past)]


def sd_again(ship):
    if not ship.undone:
        return [NOT_THERE]
    do_again(ship)
    return [len(ship.undone)]


def sd_state(ship):
    voyage = ship.voyage
    return [voyage.today, voyage.last, len(voyage.goods), sum(voyage.ports), len(ship.past), len(ship.undone)]
