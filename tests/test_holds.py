"""What holds, on many voyages: against a second, plainer way to reckon, and by what must be the same."""

import random
import unittest

from helper import BIG, UNITS, ask, days, enough, give, good, lasts, least, load, need, persons, port, ration, start
from helper import whole_look
from shipstores.changes import sd_days, sd_give, sd_good, sd_load, sd_persons, sd_port, sd_ration, sd_start
from shipstores.ships import Ship

VOYAGES = 400


class Plain:
    """A voyage reckoned the plain way: of each good how much is good up to which day."""

    def __init__(self):
        self.last = None

    def start(self, last, room, count):
        if not (1 <= last <= 60 and 1 <= room <= UNITS and count <= 5000):
            return [-22]
        self.last, self.room, self.today = last, room, 0
        self.aboard = {day: count for day in range(last + 1)}
        self.harbours = {0}
        self.goods = []
        return [0]

    def answer(self, call):
        number, given = call[0], call[1:]
        if number == 0:
            return self.start(*given)
        if number in (4, 5, 6, 8, 9, 10, 11) and given[0] >= len(self.goods):
            return [-2]
        names = ("good", "persons", "port", "load", "give", "ration", "days", "lasts", "least", "enough", "need")
        return getattr(self, names[number - 1])(*given)

    def good(self, per, life):
        if per not in range(1, 1001) or life not in range(1, 101):
            return [-22]
        if len(self.goods) >= 6:
            return [-28]
        self.goods.append({"per": per, "life": life, "stock": {}, "ever": 0})
        return [len(self.goods) - 1]

    def persons(self, day, n):
        if day not in range(self.today, self.last + 1) or n > 5000:
            return [-22]
        before, self.aboard[day] = self.aboard[day], n
        return [before]

    def next_port(self):
        return min([day for day in self.harbours if day > self.today] + [self.last + 1])

    def port(self, day, yes):
        if day not in range(self.today + 1, self.last + 1) or yes not in (0, 1):
            return [-22]
        if (day in self.harbours) == (yes == 1):
            return [-17]
        self.harbours ^= {day}
        return [self.next_port()]

    def load(self, g, n):
        it = self.goods[g]
        if n == 0:
            return [-22]
        if self.today not in self.harbours:
            return [-16]
        if sum(sum(other["stock"].values()) for other in self.goods) + n > self.room or it["ever"] + n > UNITS:
            return [-62]
        until = self.today + it["life"]
        if until not in it["stock"] and len(it["stock"]) == 6:
            return [-28]
        it["stock"][until] = it["stock"].get(until, 0) + n
        it["ever"] += n
        return [sum(it["stock"].values()), until]

    def give(self, g, n):
        stock = self.goods[g]["stock"]
        if n == 0:
            return [-22]
        if sum(stock.values()) < n:
            return [-12]
        take(stock, n)
        return [sum(stock.values())]

    def ration(self, g, per):
        if per not in range(1, 1001):
            return [-22]
        before, self.goods[g]["per"] = self.goods[g]["per"], per
        return [before]

    def days(self, n):
        if n not in range(1, 61):
            return [-22]
        if self.today + n > self.last + 1:
            return [-75]
        lacked = set()
        for day in range(self.today, self.today + n):
            for g, it in enumerate(self.goods):
                if take(it["stock"], self.aboard[day] * it["per"]) > 0:
                    lacked.add(g)
                spoil(it["stock"], day)
        self.today += n
        return [self.today, sum(2 ** g for g in lacked), int(self.today in self.harbours)]

    def feasible(self, it, stock, end):
        """Whether any way to eat lets nothing lack before that end.

        A day may eat what is good up to it or longer, so the days from one on must find
        together what they need among what is good up to that one or longer.
        """
        return all(
            sum(self.aboard[day] * it["per"] for day in range(first, end))
            <= sum(n for until, n in stock.items() if until >= first)
            for first in range(self.today, end)
        )

    def lasts(self, g):
        it = self.goods[g]
        for end in range(self.today + 1, self.last + 2):
            if not self.feasible(it, it["stock"], end):
                return [end - 1]
        return [-33]

    def suffices(self, g, n):
        it = self.goods[g]
        stock = dict(it["stock"])
        until = self.today + it["life"]
        stock[until] = stock.get(until, 0) + n
        return self.feasible(it, stock, self.next_port())

    def least(self, g):
        low, high = 0, UNITS
        if not self.suffices(g, high):
            return [-33]
        while low < high:
            middle = (low + high) // 2
            if self.suffices(g, middle):
                high = middle
            else:
                low = middle + 1
        return [low, self.next_port()]

    def enough(self, g, n):
        if n > UNITS:
            return [-22]
        return [int(self.suffices(g, n))]

    def need(self, g, a, b):
        if b < a or b > self.last + 1:
            return [-22]
        return [sum(self.aboard[day] * self.goods[g]["per"] for day in range(a, b))]


def take(stock, n):
    """Takes n, of what is good for the shortest time first; how much was missing."""
    for until in sorted(stock):
        gone = min(n, stock[until])
        n -= gone
        stock[until] -= gone
        if stock[until] == 0:
            del stock[until]
    return n


def spoil(stock, day):
    for until in [until for until in stock if until <= day]:
        del stock[until]


def some_call(dice, last):
    g = dice.choice((0, 0, 0, 1, 1, 2, 6, BIG) if dice.random() < 0.1 else (0, 0, 1))
    day = dice.choice((dice.randrange(last + 3), dice.randrange(last + 1)))
    amount = dice.choice((0, 1, 2, 5, dice.randrange(60), dice.randrange(60), dice.randrange(300), UNITS, BIG))
    return dice.choice((
        good(dice.choice((0, 1, 2, 3, 1001)), dice.choice((0, 1, 2, 3, 5, 9, 100, 101))),
        persons(day, dice.choice((0, 1, 2, 3, 5, 5001))),
        persons(day, dice.randrange(4)),
        port(day, dice.choice((0, 1, 1, 1, 2))),
        port(day, 1),
        load(g, amount), load(g, dice.randrange(1, 60)), load(g, dice.randrange(1, 9)),
        give(g, amount), give(g, dice.randrange(1, 5)),
        ration(g, dice.choice((0, 1, 2, 3, 4, 1000, 1001))),
        days(dice.choice((0, 1, 1, 1, 1, 1, 2, 3, 61))), days(1),
        lasts(g), least(g), enough(g, amount), enough(g, dice.randrange(40)), need(g, day, dice.randrange(last + 3)),
    ))


def many_lots(dice):
    """Few eat, it is long good, and nearly every day is a port."""
    calls = [start(20, 500, dice.randrange(2)), good(1, 50), good(2, 7)] + [port(day) for day in range(1, 15)]
    for n in range(60):
        calls.append(dice.choice((load(0, 3), load(1, 5), load(1, 1), days(1), give(0, 2), least(1), lasts(0))))
    return calls


def some_calls(dice, count=60):
    if dice.random() < 0.1:
        return many_lots(dice)
    last = dice.choice((1, 2, 5, 10, 20, 60))
    calls = [start(last, dice.choice((1, 30, 200, UNITS)), dice.choice((0, 1, 2, 3)))]
    calls = calls + [good(dice.randrange(1, 4), dice.choice((1, 2, 4, 8, 30))) for n in range(2)]
    for n in range(count):
        calls.append(some_call(dice, last))
        if dice.random() < 0.01:
            calls.append(start(dice.choice((0, last)), 50, 1))
    return calls


class Reckoned(unittest.TestCase):
    def test_as_the_plain_way_reckons(self):
        seen = set()
        for seed in range(VOYAGES):
            calls = some_calls(random.Random(seed))
            plain = Plain()
            told = ask(*calls)
            for call, answer in zip(calls, told):
                self.assertEqual(answer, plain.answer(call), (seed, call))
                seen.add((call[0], answer[0] if answer[0] < 0 else 0))
        # The voyages are of use only if they come by every answer there is.
        self.assertEqual(seen, {
            (0, 0), (0, -22), (1, 0), (1, -22), (1, -28), (2, 0), (2, -22), (3, 0), (3, -22), (3, -17),
            (4, 0), (4, -2), (4, -22), (4, -16), (4, -62), (4, -28), (5, 0), (5, -2), (5, -22), (5, -12),
            (6, 0), (6, -2), (6, -22), (7, 0), (7, -22), (7, -75), (8, 0), (8, -2), (8, -33),
            (9, 0), (9, -2), (9, -33), (10, 0), (10, -2), (10, -22), (11, 0), (11, -2), (11, -22),
        })

    def test_large_numbers(self):
        for seed in range(60):
            dice = random.Random(seed)
            calls = [start(60, UNITS, 5000), good(1000, dice.randrange(1, 101)), good(999, 100)]
            for n in range(40):
                calls.append(dice.choice((
                    load(0, dice.randrange(1, 10 ** 8)), load(1, dice.randrange(1, 4 * 10 ** 8)), days(1), days(7),
                    port(dice.randrange(61), 1), give(1, dice.randrange(1, 10 ** 7)), lasts(0), lasts(1), least(0),
                    least(1), enough(0, dice.randrange(UNITS)), persons(dice.randrange(61), dice.randrange(5001)),
                    need(0, 0, 61),
                )))
            plain = Plain()
            self.assertEqual(ask(*calls), [plain.answer(call) for call in calls], seed)


class TheSame(unittest.TestCase):
    def test_without_the_refused_calls(self):
        for seed in range(VOYAGES):
            calls = some_calls(random.Random(seed))
            kept = [(call, answer) for call, answer in zip(calls, ask(*calls)) if answer[0] >= 0]
            self.assertEqual(ask(*[call for call, answer in kept]), [answer for call, answer in kept], seed)

    def test_without_the_questions(self):
        for seed in range(VOYAGES):
            calls = some_calls(random.Random(seed))
            kept = [(call, answer) for call, answer in zip(calls, ask(*calls)) if call[0] < 8]
            self.assertEqual(ask(*[call for call, answer in kept]), [answer for call, answer in kept], seed)

    def test_in_whatever_pieces_days_go_by(self):
        for seed in range(VOYAGES):
            dice = random.Random(seed)
            before = [start(20, UNITS, 2), good(2, 3), good(1, 9), good(3, 30), port(2), load(0, dice.randrange(1, 20)),
                      load(1, dice.randrange(1, 40)), load(2, dice.randrange(1, 120)), days(2), load(0, 7), load(1, 9)]
            before.append(persons(dice.randrange(2, 21), dice.randrange(9)))
            whole = dice.randrange(1, 20)
            pieces = []
            while sum(pieces) < whole:
                pieces.append(dice.randrange(1, whole - sum(pieces) + 1))
            looks = whole_look(3, 20) + [give(g, n) for g in range(3) for n in (64, 32, 16, 8, 4, 2, 1)]
            at_once = ask(*before, days(whole), *looks)[len(before):]
            in_pieces = ask(*before, *[days(n) for n in pieces], *looks)[len(before):]
            lacked = 0
            for answer in in_pieces[:len(pieces)]:
                lacked |= answer[1]
            self.assertEqual([in_pieces[len(pieces) - 1][0], lacked, in_pieces[len(pieces) - 1][2]], at_once[0], seed)
            self.assertEqual(in_pieces[len(pieces):], at_once[1:], seed)


class EachDayAndUnit(unittest.TestCase):
    def test_the_day_told(self):
        """Nothing lacks before it; on it something does: seen as the days go by."""
        for seed in range(VOYAGES):
            dice = random.Random(seed)
            before = [start(15, UNITS, 2), good(1, dice.randrange(1, 12)), port(3), persons(dice.randrange(16), 7),
                      load(0, dice.randrange(1, 30)), days(3), load(0, dice.randrange(1, 30))]
            told = ask(*before, lasts(0), *[days(1)] * 13)[len(before):]
            lacking = [answer[0] - 1 for answer in told[1:] if answer[1]]
            self.assertEqual(told[0], [lacking[0] if lacking else -33], seed)

    def test_the_least_to_be_loaded(self):
        """Loaded in fact, nothing lacks up to the next port; with one less something does."""
        for seed in range(VOYAGES):
            dice = random.Random(seed)
            coming = dice.randrange(4, 16)
            before = [start(15, UNITS, 2), good(1, dice.randrange(1, 12)), port(3), port(coming),
                      load(0, dice.randrange(1, 30)), days(3)]
            answer = ask(*before, least(0))[-1]
            if answer == [-33]:
                self.assertEqual(self.lacked_with(before, UNITS // 2, coming), 1, seed)
                continue
            self.assertEqual(answer[1], coming)
            self.assertEqual(self.lacked_with(before, answer[0], coming), 0, seed)
            if answer[0] > 0:
                self.assertEqual(self.lacked_with(before, answer[0] - 1, coming), 1, seed)

    def lacked_with(self, before, n, coming):
        loads = [load(0, n)] if n > 0 else []
        return ask(*before, *loads, days(coming - 3))[-1][1]

    def test_each_unit(self):
        calls = {0: sd_start, 1: sd_good, 2: sd_persons, 3: sd_port, 4: sd_load, 5: sd_give, 6: sd_ration, 7: sd_days}
        for seed in range(VOYAGES):
            ship = Ship()
            for call in some_calls(random.Random(seed)):
                if call[0] in calls:
                    calls[call[0]](ship, *call[1:])
                self.look_at(ship.voyage)
                for was in ship.past[-1:]:
                    self.look_at(was)

    def look_at(self, voyage):
        aboard = 0
        for it in voyage.goods:
            there = sum(lot.amount for lot in it.lots)
            aboard += there
            self.assertEqual(it.loaded, there + it.eaten + it.spoilt + it.given)
            self.assertLessEqual(it.loaded, UNITS)
            untils = [lot.until for lot in it.lots]
            self.assertEqual(untils, sorted(set(untils)))
            self.assertLessEqual(len(untils), 6)
            self.assertTrue(all(until >= voyage.today for until in untils), "nothing spoilt is there")
            self.assertTrue(all(lot.amount > 0 for lot in it.lots))
        self.assertLessEqual(aboard, voyage.room)

    def test_the_sums(self):
        ship = Ship()
        sd_start(ship, 10, 100, 2)
        sd_good(ship, 3, 2)
        sd_load(ship, 0, 30)
        sd_give(ship, 0, 4)
        sd_days(ship, 5)
        it = ship.voyage.goods[0]
        # Six a day on days 0, 1 and 2; the eight left then spoil, and on days 3 and 4 twelve lack.
        self.assertEqual((it.loaded, it.eaten, it.spoilt, it.given, it.lacked), (30, 18, 8, 4, 12))
        sd_days(ship, 1)
        sd_ration(ship, 0, 1)
        it = ship.voyage.goods[0]
        self.assertEqual((it.loaded, it.eaten, it.spoilt, it.given, it.lacked), (30, 18, 8, 4, 18))


if __name__ == "__main__":
    unittest.main()
