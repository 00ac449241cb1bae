"""What holds, on many voyages: against a second, plainer way to reckon, and by what must be the same."""

import copy
import random
import unittest

from helper import BIG, UNITS, again, ask, back, coming, days, enough, give, good, lasts, least, load, look, lot, need
from helper import persons, port, ration, room, short, spoils, start, state, stock, sums, who, whole_look

VOYAGES = 400
# The numbers of the calls that are told of a good, and those that only ask.
OF_A_GOOD = (4, 5, 6, 8, 9, 10, 11, 12, 13, 14, 15, 20)
ASKING = (8, 9, 10, 11, 12, 13, 14, 15, 16, 17, 18, 19, 20, 23)
NAMES = (
    "start", "good", "persons", "port", "load", "give", "ration", "days", "lasts", "least", "enough", "need", "spoils",
    "stock", "lot", "look", "who", "next", "short", "room_", "sums",
)


class Plain:
    """A voyage reckoned the plain way: of each good how much is good up to which day."""

    def __init__(self):
        self.last = None

    def start(self, last, room, count):
        if not (1 <= last <= 60 and 1 <= room <= UNITS and count <= 5000):
            return [-22]
        self.last, self.room, self.today = last, room, 0
        self.aboard = {day: count for day in range(last + 1)}
        self.harbours = {0}
        self.goods = []
        return [0]

    def answer(self, call):
        number, given = call[0], call[1:]
        if number in OF_A_GOOD and given[0] >= len(self.goods):
            return [-2]
        return getattr(self, NAMES[number])(*given)

    def good(self, per, life):
        if per not in range(1, 1001) or life not in range(1, 101):
            return [-22]
        if len(self.goods) >= 6:
            return [-28]
        self.goods.append({"per": per, "life": life, "stock": {}, "ever": 0, "eaten": 0, "rotten": 0, "gone": 0,
                           "lacking": 0})
        return [len(self.goods) - 1]

    def persons(self, day, n):
        if day not in range(self.today, self.last + 1) or n > 5000:
            return [-22]
        before, self.aboard[day] = self.aboard[day], n
        return [before]

    def next_port(self):
        return min([day for day in self.harbours if day > self.today] + [self.last + 1])

    def port(self, day, yes):
        if day not in range(self.today + 1, self.last + 1) or yes not in (0, 1):
            return [-22]
        if (day in self.harbours) == (yes == 1):
            return [-17]
        self.harbours ^= {day}
        return [self.next_port()]

    def load(self, g, n):
        it = self.goods[g]
        if n == 0:
            return [-22]
        if self.today not in self.harbours:
            return [-16]
        if sum(sum(other["stock"].values()) for other in self.goods) + n > self.room or it["ever"] + n > UNITS:
            return [-62]
        until = self.today + it["life"]
        if until not in it["stock"] and len(it["stock"]) == 6:
            return [-28]
        it["stock"][until] = it["stock"].get(until, 0) + n
        it["ever"] += n
        return [sum(it["stock"].values()), until]

    def give(self, g, n):
        stock = self.goods[g]["stock"]
        if n == 0:
            return [-22]
        if sum(stock.values()) < n:
            return [-12]
        take(stock, n)
        self.goods[g]["gone"] += n
        return [sum(stock.values())]

    def ration(self, g, per):
        if per not in range(1, 1001):
            return [-22]
        before, self.goods[g]["per"] = self.goods[g]["per"], per
        return [before]

    def days(self, n):
        if n not in range(1, 61):
            return [-22]
        if self.today + n > self.last + 1:
            return [-75]
        lacked = set()
        for day in range(self.today, self.today + n):
            for g, it in enumerate(self.goods):
                hunger = self.aboard[day] * it["per"]
                missing = take(it["stock"], hunger)
                it["eaten"] += hunger - missing
                it["lacking"] += missing
                it["rotten"] += spoil(it["stock"], day)
                if missing > 0:
                    lacked.add(g)
        self.today += n
        return [self.today, sum(2 ** g for g in lacked), int(self.today in self.harbours)]

    def feasible(self, it, stock, end):
        """Whether any way to eat lets nothing lack before that end.

        A day may eat what is good up to it or longer, so the days from one on must find
        together what they need among what is good up to that one or longer.
        """
        return all(
            sum(self.aboard[day] * it["per"] for day in range(first, end))
            <= sum(n for until, n in stock.items() if until >= first)
            for first in range(self.today, end)
        )

    def lasts(self, g):
        it = self.goods[g]
        for end in range(self.today + 1, self.last + 2):
            if not self.feasible(it, it["stock"], end):
                return [end - 1]
        return [-33]

    def suffices(self, g, n):
        it = self.goods[g]
        stock = dict(it["stock"])
        until = self.today + it["life"]
        stock[until] = stock.get(until, 0) + n
        return self.feasible(it, stock, self.next_port())

    def least(self, g):
        low, high = 0, UNITS
        if not self.suffices(g, high):
            return [-33]
        while low < high:
            middle = (low + high) // 2
            if self.suffices(g, middle):
                high = middle
            else:
                low = middle + 1
        return [low, self.next_port()]

    def enough(self, g, n):
        if n > UNITS:
            return [-22]
        return [int(self.suffices(g, n))]

    def need(self, g, a, b):
        if b < a or b > self.last + 1:
            return [-22]
        return [sum(self.aboard[day] * self.goods[g]["per"] for day in range(a, b))]

    def spoils(self, g):
        """The days go by, on a copy, and then it is looked at what has spoilt."""
        later = copy.deepcopy(self)
        while later.today < self.next_port():
            later.days(1)
        return [later.goods[g]["rotten"] - self.goods[g]["rotten"]]

    def stock(self, g):
        return [sum(self.goods[g]["stock"].values()), len(self.goods[g]["stock"])]

    def lot(self, g, i):
        lots = sorted(self.goods[g]["stock"].items())
        return [lots[i][1], lots[i][0]] if i < len(lots) else [-6]

    def look(self, g):
        return [self.goods[g]["per"], self.goods[g]["life"]]

    def who(self, day):
        return [self.aboard[day], int(day in self.harbours)] if day in self.aboard else [-22]

    def next(self):
        return [self.next_port(), self.today, int(self.today in self.harbours)]

    def short(self):
        lacking = [g for g, it in enumerate(self.goods) if not self.feasible(it, it["stock"], self.next_port())]
        return [len(lacking), sum(2 ** g for g in lacking)]

    def room_(self):
        there = sum(self.stock(g)[0] for g in range(len(self.goods)))
        return [self.room - there, there]

    def sums(self, g):
        it = self.goods[g]
        return [it["ever"], self.stock(g)[0], it["eaten"], it["rotten"], it["gone"], it["lacking"]]


class Replayed:
    """Keeps the changes as they were told: one is taken back by making all the others anew, from the start on."""

    def __init__(self):
        self.plain = Plain()
        self.line = []
        self.free = 0
        self.undone = []

    def answer(self, call):
        if call[0] == 21:
            return self.back()
        if call[0] == 22:
            return self.again()
        if call[0] == 23:
            plain = self.plain
            return [plain.today, plain.last, len(plain.goods), len(plain.harbours), self.free, len(self.undone)]
        told = self.plain.answer(call)
        if told[0] >= 0 and call[0] == 0:
            self.line, self.free, self.undone = [call], 0, []
        elif told[0] >= 0 and call[0] not in ASKING:
            self.line.append(call)
            self.free = min(self.free + 1, 30)
            self.undone = []
        return told

    def back(self):
        if self.free == 0:
            return [-2]
        self.undone.append(self.line.pop())
        self.free -= 1
        self.plain = Plain()
        for call in self.line:
            self.plain.answer(call)
        return [self.free]

    def again(self):
        if not self.undone:
            return [-2]
        self.line.append(self.undone.pop())
        self.free += 1
        self.plain.answer(self.line[-1])
        return [len(self.undone)]


def take(stock, n):
    """Takes n, of what is good for the shortest time first; how much was missing."""
    for until in sorted(stock):
        gone = min(n, stock[until])
        n -= gone
        stock[until] -= gone
        if stock[until] == 0:
            del stock[until]
    return n


def spoil(stock, day):
    """Takes away what was good up to that day or not as long; how much it was."""
    return sum(stock.pop(until) for until in list(stock) if until <= day)


def some_call(dice, last):
    g = dice.choice((0, 0, 0, 1, 1, 2, 6, BIG) if dice.random() < 0.1 else (0, 0, 1))
    day = dice.choice((dice.randrange(last + 3), dice.randrange(last + 1)))
    amount = dice.choice((0, 1, 2, 5, dice.randrange(60), dice.randrange(60), dice.randrange(300), UNITS, BIG))
    return dice.choice((
        good(dice.choice((0, 1, 2, 3, 1001)), dice.choice((0, 1, 2, 3, 5, 9, 100, 101))),
        persons(day, dice.choice((0, 1, 2, 3, 5, 5001))),
        persons(day, dice.randrange(4)),
        port(day, dice.choice((0, 1, 1, 1, 2))),
        port(day, 1),
        load(g, amount), load(g, dice.randrange(1, 60)), load(g, dice.randrange(1, 9)),
        give(g, amount), give(g, dice.randrange(1, 5)),
        ration(g, dice.choice((0, 1, 2, 3, 4, 1000, 1001))),
        days(dice.choice((0, 1, 1, 1, 1, 1, 2, 3, 61))), days(1),
        some_question(dice, g, day, amount, last), some_question(dice, g, day, amount, last),
        some_question(dice, g, day, amount, last), some_question(dice, g, day, amount, last),
        some_question(dice, g, day, amount, last), some_question(dice, g, day, amount, last),
        back(), back(), again(), again(),
    ))


def some_question(dice, g, day, amount, last):
    return dice.choice((
        lasts(g), least(g), enough(g, amount), enough(g, dice.randrange(40)), need(g, day, dice.randrange(last + 3)),
        spoils(g), stock(g), lot(g, dice.choice((0, 0, 0, 1, 2, 6, BIG))), look(g), who(day), coming(), short(), room(),
        sums(g), state(),
    ))


def many_lots(dice):
    """Few eat, it is long good, and nearly every day is a port."""
    calls = [start(20, 500, dice.randrange(2)), good(1, 50), good(2, 7)] + [port(day) for day in range(1, 15)]
    for n in range(90):
        calls.append(dice.choice((
            load(0, 3), load(0, 3), load(0, 3), load(1, 5), load(1, 1), days(1), days(1), give(0, 2), least(1), lasts(0),
            spoils(1), stock(0), lot(0, dice.randrange(7)), sums(1), back(), again(),
        )))
    return calls


def some_calls(dice, count=60):
    if dice.random() < 0.1:
        return many_lots(dice)
    last = dice.choice((1, 2, 5, 10, 20, 60))
    calls = [start(last, dice.choice((1, 30, 200, UNITS)), dice.choice((0, 1, 2, 3)))]
    calls = calls + [good(dice.randrange(1, 4), dice.choice((1, 2, 4, 8, 30))) for n in range(2)]
    for n in range(count):
        calls.append(some_call(dice, last))
        if dice.random() < 0.01:
            calls.append(start(dice.choice((0, last)), 50, 1))
    return calls


def long_line(dice):
    """1,000 calls: several voyages, and in each of them now and then many changes taken back and done again."""
    calls = []
    while len(calls) < 1000:
        last = dice.choice((20, 40, 60))
        calls.append(start(last, dice.choice((500, 5000, UNITS)), dice.choice((0, 1, 2))))
        calls = calls + [good(1, 40), good(2, 3)] + [port(dice.randrange(1, last + 1)) for n in range(last // 3)]
        for n in range(100):
            g = dice.randrange(2)
            calls.append(dice.choice((load(g, dice.randrange(1, 90)), load(g, dice.randrange(1, 30)), days(1))))
            calls.append(some_call(dice, last))
            calls.append(some_question(dice, g, dice.randrange(last + 2), dice.randrange(99), last))
            if dice.random() < 0.02:
                count = dice.randrange(1, 35)
                calls = calls + [back()] * count + [again()] * dice.choice((count, count, count + 1, count // 2))
        calls.append(start(dice.choice((0, 61)), 300, 1))
    return calls[:1000]


class Reckoned(unittest.TestCase):
    def test_long_lines(self):
        for seed in range(12):
            calls = long_line(random.Random(seed))
            self.assertEqual((len(calls), {call[0] for call in calls}), (1000, set(range(24))))
            plain = Replayed()
            done = set()
            for n, (call, answer) in enumerate(zip(calls, ask(*calls))):
                self.assertEqual(answer, plain.answer(call), (seed, n, call))
                if answer[0] >= 0:
                    done.add(call[0])
            self.assertEqual(done, set(range(24)), seed)

    def test_as_the_plain_way_reckons(self):
        seen = set()
        for seed in range(VOYAGES):
            calls = some_calls(random.Random(seed))
            plain = Replayed()
            told = ask(*calls)
            for call, answer in zip(calls, told):
                self.assertEqual(answer, plain.answer(call), (seed, call))
                seen.add((call[0], answer[0] if answer[0] < 0 else 0))
        # The voyages are of use only if they come by every answer there is.
        self.assertEqual(seen, {
            (0, 0), (0, -22), (1, 0), (1, -22), (1, -28), (2, 0), (2, -22), (3, 0), (3, -22), (3, -17),
            (4, 0), (4, -2), (4, -22), (4, -16), (4, -62), (4, -28), (5, 0), (5, -2), (5, -22), (5, -12),
            (6, 0), (6, -2), (6, -22), (7, 0), (7, -22), (7, -75), (8, 0), (8, -2), (8, -33),
            (9, 0), (9, -2), (9, -33), (10, 0), (10, -2), (10, -22), (11, 0), (11, -2), (11, -22),
            (12, 0), (12, -2), (13, 0), (13, -2), (14, 0), (14, -2), (14, -6), (15, 0), (15, -2), (16, 0), (16, -22),
            (17, 0), (18, 0), (19, 0), (20, 0), (20, -2), (21, 0), (21, -2), (22, 0), (22, -2), (23, 0),
        })

    def test_large_numbers(self):
        for seed in range(60):
            dice = random.Random(seed)
            calls = [start(60, UNITS, 5000), good(1000, dice.randrange(1, 101)), good(999, 100)]
            for n in range(40):
                calls.append(dice.choice((
                    load(0, dice.randrange(1, 10 ** 8)), load(1, dice.randrange(1, 4 * 10 ** 8)), days(1), days(7),
                    port(dice.randrange(61), 1), give(1, dice.randrange(1, 10 ** 7)), lasts(0), lasts(1), least(0),
                    least(1), enough(0, dice.randrange(UNITS)), persons(dice.randrange(61), dice.randrange(5001)),
                    need(0, 0, 61), spoils(0), spoils(1), sums(0), sums(1), lot(0, 0), stock(1), short(), room(), back(),
                    again(),
                )))
            plain = Replayed()
            self.assertEqual(ask(*calls), [plain.answer(call) for call in calls], seed)


class TheSame(unittest.TestCase):
    def test_without_the_refused_calls(self):
        for seed in range(VOYAGES):
            calls = some_calls(random.Random(seed))
            kept = [(call, answer) for call, answer in zip(calls, ask(*calls)) if answer[0] >= 0]
            self.assertEqual(ask(*[call for call, answer in kept]), [answer for call, answer in kept], seed)

    def test_without_the_questions(self):
        for seed in range(VOYAGES):
            calls = some_calls(random.Random(seed))
            kept = [(call, answer) for call, answer in zip(calls, ask(*calls)) if call[0] not in ASKING]
            self.assertEqual(ask(*[call for call, answer in kept]), [answer for call, answer in kept], seed)

    def test_in_whatever_pieces_days_go_by(self):
        for seed in range(VOYAGES):
            dice = random.Random(seed)
            before = [start(20, UNITS, 2), good(2, 3), good(1, 9), good(3, 30), port(2), load(0, dice.randrange(1, 20)),
                      load(1, dice.randrange(1, 40)), load(2, dice.randrange(1, 120)), days(2), load(0, 7), load(1, 9)]
            before.append(persons(dice.randrange(2, 21), dice.randrange(9)))
            whole = dice.randrange(1, 20)
            pieces = []
            while sum(pieces) < whole:
                pieces.append(dice.randrange(1, whole - sum(pieces) + 1))
            looks = whole_look(3, 20) + [give(g, n) for g in range(3) for n in (64, 32, 16, 8, 4, 2, 1)]
            at_once = ask(*before, days(whole), *looks)[len(before):]
            in_pieces = ask(*before, *[days(n) for n in pieces], *looks)[len(before):]
            lacked = 0
            for answer in in_pieces[:len(pieces)]:
                lacked |= answer[1]
            self.assertEqual([in_pieces[len(pieces) - 1][0], lacked, in_pieces[len(pieces) - 1][2]], at_once[0], seed)
            self.assertEqual(in_pieces[len(pieces):], at_once[1:], seed)


class EachDayAndUnit(unittest.TestCase):
    def test_the_day_told(self):
        """Nothing lacks before it; on it something does: seen as the days go by."""
        for seed in range(VOYAGES):
            dice = random.Random(seed)
            before = [start(15, UNITS, 2), good(1, dice.randrange(1, 12)), port(3), persons(dice.randrange(16), 7),
                      load(0, dice.randrange(1, 30)), days(3), load(0, dice.randrange(1, 30))]
            told = ask(*before, lasts(0), *[days(1)] * 13)[len(before):]
            lacking = [answer[0] - 1 for answer in told[1:] if answer[1]]
            self.assertEqual(told[0], [lacking[0] if lacking else -33], seed)

    def test_the_least_to_be_loaded(self):
        """Loaded in fact, nothing lacks up to the next port; with one less something does."""
        for seed in range(VOYAGES):
            dice = random.Random(seed)
            coming = dice.randrange(4, 16)
            before = [start(15, UNITS, 2), good(1, dice.randrange(1, 12)), port(3), port(coming),
                      load(0, dice.randrange(1, 30)), days(3)]
            answer = ask(*before, least(0))[-1]
            if answer == [-33]:
                self.assertEqual(self.lacked_with(before, UNITS // 2, coming), 1, seed)
                continue
            self.assertEqual(answer[1], coming)
            self.assertEqual(self.lacked_with(before, answer[0], coming), 0, seed)
            if answer[0] > 0:
                self.assertEqual(self.lacked_with(before, answer[0] - 1, coming), 1, seed)

    def lacked_with(self, before, n, coming):
        loads = [load(0, n)] if n > 0 else []
        return ask(*before, *loads, days(coming - 3))[-1][1]

    def test_what_spoils(self):
        """Just as much as told: seen in the sums when the days up to the next port have gone by."""
        spoilt = 0
        for seed in range(VOYAGES):
            calls = some_calls(random.Random(seed))
            port_ahead, today, sign = ask(*calls, coming())[-1]
            passing = [days(1)] * (port_ahead - today)
            told = ask(*calls, good(), spoils(0), spoils(1), sums(0), sums(1), *passing, sums(0), sums(1))
            told = told[len(calls) + 1:]
            for g in range(2):
                if told[g] != [-2]:
                    self.assertEqual(told[g], [told[g - 2][3] - told[2 + g][3]], seed)
                    spoilt += told[g][0]
        self.assertGreater(spoilt, 0)

    def test_each_unit(self):
        for seed in range(VOYAGES):
            calls = some_calls(random.Random(seed), 40)
            looks = [sums(0), sums(1), *[lot(g, i) for g in range(2) for i in range(7)], room(), coming()]
            line = []
            for call in calls:
                line = line + [call] + (looks if line else [])
            told = ask(*line)[1:]
            for at in range(0, len(told), len(looks) + 1):
                self.look_at(told[at + 1:at + 1 + len(looks)])

    def look_at(self, told):
        """Each unit is there, was eaten, spoilt, or was given away; nothing spoilt is there."""
        today = told[17][1]
        for g in range(2):
            lots = [answer for answer in told[2 + 7 * g:9 + 7 * g] if answer[0] >= 0]
            if told[g] == [-2]:
                self.assertEqual(lots, [])
                continue
            loaded, there, eaten, spoilt, given, lacked = told[g]
            self.assertEqual(loaded, there + eaten + spoilt + given)
            self.assertLessEqual(loaded, UNITS)
            self.assertEqual(there, sum(amount for amount, until in lots))
            untils = [until for amount, until in lots]
            self.assertEqual(untils, sorted(set(untils)))
            self.assertLessEqual(len(untils), 6)
            self.assertTrue(all(until >= today for until in untils), "nothing spoilt is there")
        self.assertGreaterEqual(told[16][0], 0, "never too full")

    def test_all_taken_back_and_done_again(self):
        """Of any line: as many as can be are taken back, and done again, and all is as it was on the way."""
        for seed in range(VOYAGES // 4):
            calls = some_calls(random.Random(seed), 100)
            count = ask(*calls, state())[-1][4]
            looks = whole_look(2, 10) + [state()]
            seen = [ask(*calls, *[back()] * n, *looks)[len(calls) + n:] for n in range(count + 1)]
            self.assertEqual(ask(*calls, *[back()] * (count + 1))[-1], [-2])
            for n in range(count + 1):
                line = calls + [back()] * count + [again()] * n
                self.assertEqual(ask(*line, *looks)[len(line):], seen[count - n], (seed, n))


if __name__ == "__main__":
    unittest.main()
