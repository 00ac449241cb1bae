"""A good: how it is eaten, how long it keeps, its lots, and what became of each unit."""

from shipstores.lots import still_good, units_in, with_more, without


class Good:
    def __init__(self, per, life):
        self.per = per
        self.life = life
        self.lots = []
        self.loaded = 0
        self.eaten = 0
        self.spoilt = 0
        self.given = 0
        self.lacked = 0


def copy_of_good(good):
    copied = Good(good.per, good.life)
    copied.lots = list(good.lots)
    copied.loaded = good.loaded
    copied.eaten = good.eaten
    copied.spoilt = good.spoilt
    copied.given = good.given
    copied.lacked = good.lacked
    return copied


def lots_if_loaded(good, today, n):
    return with_more(good.lots, today + good.life, n)


def load(good, today, n):
    good.lots = lots_if_loaded(good, today, n)
    good.loaded += n


def give(good, n):
    good.lots = without(good.lots, n)
    good.given += n


def live_day(good, need, day):
    """The one rule of a day: as much as there is of the need is eaten, then what is over its time spoils."""
    eaten = min(need, units_in(good.lots))
    left = without(good.lots, eaten)
    good.lots = still_good(left, day + 1)
    good.eaten += eaten
    good.lacked += need - eaten
    good.spoilt += units_in(left) - units_in(good.lots)


def lacks_by_day(good, today, needs):
    """How much lacks on each day from today on, a need a day, if nothing more is loaded or given away."""
    trial = copy_of_good(good)
    lacks = []
    day = today
    for need in needs:
        before = trial.lacked
        live_day(trial, need, day)
        lacks.append(trial.lacked - before)
        day += 1
    return lacks


def spoils_in_days(good, today, needs):
    """How much spoils behind the days from today on, a need a day, if nothing more is loaded or given away."""
    trial = copy_of_good(good)
    day = today
    for need in needs:
        live_day(trial, need, day)
        day += 1
    return trial.spoilt - good.spoilt
