"""Lots of one good, from the one that is good for the shortest time on.

Nothing here changes a lot or a list of lots: voyages that can be taken back share them.
"""


class Lot:
    """So many units, good up to a day, that day with it."""

    def __init__(self, until, amount):
        self.until = until
        self.amount = amount


def units_in(lots):
    return sum([lot.amount for lot in lots])


def with_more(lots, until, n):
    """The lots when n units come in that are good for at least as long as all of them."""
    if lots and lots[-1].until == until:
        return lots[:-1] + [Lot(until, lots[-1].amount + n)]
    return lots + [Lot(until, n)]


def without(lots, n):
    """The lots when n units are gone, the first lot's first; they have at least n."""
    left = []
    rest = n
    for lot in lots:
        gone = min(rest, lot.amount)
        rest -= gone
        if gone < lot.amount:
            left.append(Lot(lot.until, lot.amount - gone))
    return left


def still_good(lots, today):
    return [lot for lot in lots if lot.until >= today]
