"""Point 6, of the whole voyage: who is aboard, the next port, which goods are short, and the room."""

import unittest

from helper import BIG, UNITS, again, ask, ask_last, back, coming, days, give, good, load, persons, port, ration, room
from helper import short, start, state, who, whole_look


class Who(unittest.TestCase):
    def test_how_many_persons_then_whether_it_is_a_port(self):
        told = ask(start(10, 100, 7), persons(3, 40), port(3), port(5), who(0), who(1), who(3), who(5))
        self.assertEqual(told[4:], [[7, 1], [7, 0], [40, 1], [7, 1]])

    def test_day_0_is_a_port(self):
        self.assertEqual(ask_last(start(10, 100, 7), who(0)), [7, 1])
        self.assertEqual(ask_last(start(10, 100, 7), days(11), who(0)), [7, 1])

    def test_a_day_that_is_over(self):
        calls = [start(10, 100, 7), persons(1, 3), persons(2, 0), port(2), days(4)]
        self.assertEqual(ask(*calls, who(1), who(2), who(3), who(4))[5:], [[3, 0], [0, 1], [7, 0], [7, 0]])

    def test_the_last_day_and_behind_it(self):
        for last in (1, 10, 60):
            for day, answer in ((last, [7, 0]), (last + 1, [-22]), (last + 2, [-22]), (BIG, [-22])):
                self.assertEqual(ask_last(start(last, 100, 7), who(day)), answer, (last, day))
        self.assertEqual(ask(start(10, 100, 7), persons(10, 5000), port(10), who(10))[-1], [5000, 1])

    def test_today_the_day_behind_the_last(self):
        told = ask(start(3, 100, 7), days(4), who(3), who(4), who(5))
        self.assertEqual(told[2:], [[7, 0], [-22], [-22]])

    def test_a_port_no_more(self):
        self.assertEqual(ask_last(start(10, 100, 7), port(3), port(3, 0), who(3)), [7, 0])

    def test_refused_all_is_as_it_was(self):
        before = [start(10, 100, 7), good(), good(), load(0, 5), port(3), back()]
        looks = whole_look() + [state(), again(), state()]
        told = ask(*before, who(11), who(BIG), *looks)[len(before):]
        self.assertEqual(told[:2], [[-22], [-22]])
        self.assertEqual(told[2:], ask(*before, *looks)[len(before):])


class Next(unittest.TestCase):
    def test_the_next_port_then_today_then_whether_that_is_a_port(self):
        told = ask(start(10), port(5), port(7), coming(), days(1), coming(), days(4), coming(), days(1), coming())
        self.assertEqual(told[3::2], [[5, 0, 1], [5, 1, 0], [7, 5, 1], [7, 6, 0]])

    def test_no_port_behind_today(self):
        told = ask(start(10), coming(), days(3), coming(), port(8), coming(), days(5), coming(), days(2), coming())
        self.assertEqual(told[1::2], [[11, 0, 1], [11, 3, 0], [8, 3, 0], [11, 8, 1], [11, 10, 0]])

    def test_the_last_day_a_port(self):
        told = ask(start(3), port(3), coming(), days(3), coming(), days(1), coming())
        self.assertEqual(told[2::2], [[3, 0, 1], [4, 3, 1], [4, 4, 0]])

    def test_the_day_behind_the_last(self):
        for last in (1, 59):
            self.assertEqual(ask_last(start(last), days(last + 1), coming()), [last + 1, last + 1, 0])
        self.assertEqual(ask_last(start(60), port(60), days(60), days(1), coming()), [61, 61, 0])

    def test_a_port_no_more(self):
        self.assertEqual(ask(start(10), port(5), port(7), port(5, 0), coming())[-1], [7, 0, 1])


class Short(unittest.TestCase):
    def test_how_many_then_which_as_bits(self):
        calls = [start(10)] + [good()] * 6 + [port(1)]
        for lacking in range(64):
            loads = [load(g, 1) for g in range(6) if not lacking // 2 ** g % 2]
            self.assertEqual(ask_last(*calls, *loads, short()), [bin(lacking).count("1"), lacking], lacking)

    def test_no_goods(self):
        self.assertEqual(ask_last(start(), short()), [0, 0])
        self.assertEqual(ask_last(start(), days(11), short()), [0, 0])

    def test_up_to_the_next_port(self):
        for n, answer in ((2, [1, 1]), (3, [0, 0]), (4, [0, 0])):
            self.assertEqual(ask_last(start(10), good(), port(3), load(0, n), short()), answer, n)

    def test_no_port_behind_today(self):
        for n, answer in ((10, [1, 2]), (11, [0, 0])):
            self.assertEqual(ask_last(start(10), good(), good(), load(0, 20), load(1, n), short()), answer, n)

    def test_the_last_day_and_behind_it(self):
        told = ask(start(3), good(), good(), load(1, 4), days(3), short(), days(1), short())
        self.assertEqual(told[4:], [[3, 1, 0], [1, 1], [4, 1, 0], [0, 0]])

    def test_what_lacked_before_today_does_not_count(self):
        told = ask(start(10), good(), port(2), days(2), short(), load(0, 9), short())
        self.assertEqual(told[4:], [[1, 1], [9, 102], [0, 0]])

    def test_what_spoils_is_not_eaten(self):
        calls = [start(10), good(1, 2), good(1, 3), port(4), load(0, 50), load(1, 50)]
        self.assertEqual(ask_last(*calls, short()), [1, 1])

    def test_nobody_aboard(self):
        self.assertEqual(ask_last(start(10, 100, 0), good(1000), good(1), short()), [0, 0])

    def test_the_ration_counts(self):
        told = ask(start(10), good(), port(3), load(0, 5), short(), ration(0, 2), short())
        self.assertEqual(told[4:], [[0, 0], [1], [1, 1]])


class Room(unittest.TestCase):
    def test_for_how_much_more_then_how_much_there_is(self):
        told = ask(start(10, 100, 1), room(), good(), good(), load(0, 30), room(), load(1, 25), room())
        self.assertEqual([told[n] for n in (1, 5, 7)], [[100, 0], [70, 30], [45, 55]])

    def test_what_is_eaten_spoilt_or_given_away_leaves_room(self):
        calls = [start(10, 100, 2), good(3, 50), good(1, 1), load(0, 30), load(1, 25)]
        self.assertEqual(ask(*calls, give(0, 4), room(), days(1), room(), days(1), room())[5:],
                         [[26], [49, 51], [1, 0, 0], [57, 43], [2, 0, 0], [86, 14]])

    def test_full(self):
        told = ask(start(10, 100, 2), good(), load(0, 100), room(), load(0, 1), room())
        self.assertEqual(told[3:], [[0, 100], [-62], [0, 100]])

    def test_the_least_and_the_most(self):
        self.assertEqual(ask_last(start(10, 1, 2), room()), [1, 0])
        self.assertEqual(ask_last(start(10, UNITS, 2), room()), [UNITS, 0])
        self.assertEqual(ask_last(start(10, UNITS, 2), good(), load(0, UNITS), room()), [0, UNITS])

    def test_the_day_behind_the_last(self):
        self.assertEqual(ask_last(start(1, 10, 2), good(), load(0, 9), days(2), room()), [5, 5])


class AllOfThem(unittest.TestCase):
    def test_asking_changes_nothing(self):
        before = [start(10, 100, 1), good(1, 2), good(2, 9), port(1), load(0, 10), days(1), load(0, 10), back(), back()]
        looks = whole_look() + [state(), again(), again(), state()]
        without = ask(*before, *looks)[len(before):]
        for call in (who(0), who(10), coming(), short(), room(), state()):
            told = ask(*before, call, call, *looks)[len(before):]
            self.assertGreaterEqual(told[0][0], 0, call)
            self.assertEqual(told[0], told[1], call)
            self.assertEqual(told[2:], without, call)


if __name__ == "__main__":
    unittest.main()
