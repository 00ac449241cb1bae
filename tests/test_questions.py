"""Points 4 and 5: how long it lasts, how little must be loaded, what is needed."""

import unittest

from helper import BIG, UNITS, ask, ask_last, days, enough, give, good, lasts, least, load, need, persons, port
from helper import ration, start


class Lasts(unittest.TestCase):
    def test_the_first_day_on_which_something_lacks(self):
        for n, answer in ((1, 1), (2, 2), (9, 9), (10, 10), (11, -33), (12, -33)):
            self.assertEqual(ask_last(start(10), good(), load(0, n), lasts(0)), [answer], n)

    def test_nothing_there(self):
        self.assertEqual(ask_last(start(10), good(), lasts(0)), [0])
        self.assertEqual(ask_last(start(10), good(), days(4), lasts(0)), [4])

    def test_one_unit_missing_is_enough_to_lack(self):
        self.assertEqual(ask_last(start(10, 100, 3), good(2), load(0, 17), lasts(0)), [2])
        self.assertEqual(ask_last(start(10, 100, 3), good(2), load(0, 18), lasts(0)), [3])

    def test_on_the_last_day_or_not_at_all(self):
        self.assertEqual(ask_last(start(1), good(), load(0, 1), lasts(0)), [1])
        self.assertEqual(ask_last(start(1), good(), load(0, 2), lasts(0)), [-33])
        self.assertEqual(ask_last(start(60), good(), load(0, 60), lasts(0)), [60])
        self.assertEqual(ask_last(start(60), good(), load(0, 61), lasts(0)), [-33])

    def test_what_spoils_is_not_eaten(self):
        self.assertEqual(ask_last(start(10), good(1, 4), load(0, 99), lasts(0)), [5])

    def test_days_without_persons_are_passed(self):
        calls = [start(10), good(1, 4), load(0, 99)] + [persons(day, 0) for day in (5, 6, 7)]
        self.assertEqual(ask_last(*calls, lasts(0)), [8])

    def test_what_lacked_before_today_does_not_count(self):
        self.assertEqual(ask_last(start(10), good(), port(2), days(2), load(0, 9), lasts(0)), [-33])
        self.assertEqual(ask_last(start(10), good(), port(2), days(2), load(0, 8), lasts(0)), [10])

    def test_beyond_the_next_port(self):
        self.assertEqual(ask_last(start(10), good(), port(2), load(0, 5), lasts(0)), [5])

    def test_each_good_by_itself(self):
        self.assertEqual(ask(start(10), good(), good(2), load(0, 8), load(1, 8), lasts(0), lasts(1))[-2:], [[8], [4]])

    def test_asking_changes_nothing(self):
        told = ask(start(10), good(), load(0, 5), lasts(0), lasts(0), least(0), enough(0, 9), lasts(0), days(5), days(1))
        self.assertEqual(told[3:], [[5], [5], [6, 11], [1], [5], [5, 0, 0], [6, 1, 0]])


class Least(unittest.TestCase):
    def around(self, calls, answer):
        """With just so much it's enough, with one less it isn't; loaded in fact, it lasts just so."""
        told = ask(*calls, least(0))[-1]
        self.assertEqual(told, answer)
        self.assertEqual(ask_last(*calls, enough(0, told[0])), [1])
        if told[0] > 0:
            self.assertEqual(ask_last(*calls, enough(0, told[0] - 1)), [0])
            self.assertEqual(ask_last(*calls, load(0, told[0]), least(0)), [0, told[1]])
        if told[0] > 1:
            self.assertEqual(ask_last(*calls, load(0, told[0] - 1), least(0)), [1, told[1]])

    def test_up_to_the_next_port(self):
        self.around([start(10, 1000, 3), good(2), port(4)], [24, 4])

    def test_up_to_the_day_behind_the_last(self):
        self.around([start(10, 1000, 3), good(2)], [66, 11])

    def test_nothing_must_be_loaded(self):
        self.around([start(10, 1000, 3), good(2), port(4), load(0, 24)], [0, 4])
        self.around([start(10, 1000, 3), good(2), port(4), load(0, 99)], [0, 4])
        self.around([start(10, 1000, 0), good(2)], [0, 11])

    def test_to_what_is_there(self):
        self.around([start(10, 1000, 3), good(2), port(4), load(0, 23)], [1, 4])
        self.around([start(10, 1000, 3), good(2), port(4), load(0, 1)], [23, 4])

    def test_what_is_there_may_spoil_first(self):
        # Of 50 up to day 4, twelve are eaten on days 3 and 4; days 5 and 6 need twelve more.
        calls = [start(10, 1000, 3), good(2, 4), port(3), port(7), load(0, 68), days(3)]
        self.around(calls, [12, 7])

    def test_good_just_long_enough(self):
        self.around([start(10), good(1, 4), port(5)], [5, 5])
        self.around([start(10), good(1, 1), port(2)], [2, 2])

    def test_it_would_spoil_however_much_were_loaded(self):
        for life, first in ((4, 6), (1, 3), (9, 11)):
            calls = [start(12), good(1, life), port(first)]
            self.assertEqual(ask_last(*calls, least(0)), [-33])
            for n in (0, 1, 50, UNITS):
                self.assertEqual(ask_last(*calls, enough(0, n)), [0])

    def test_nobody_eats_where_it_would_be_spoilt(self):
        self.around([start(12), good(1, 4), port(6), persons(5, 0)], [5, 6])
        self.around([start(12), good(1, 4), port(7), persons(5, 0), persons(6, 0)], [5, 7])

    def test_whether_today_is_a_port_is_not_looked_at(self):
        told = ask(start(10, 1000, 3), good(2), port(4), days(2), load(0, 1), least(0), enough(0, 12), enough(0, 11))
        self.assertEqual(told[4:], [[-16], [12, 4], [1], [0]])

    def test_whether_there_is_room_is_not_looked_at(self):
        told = ask(start(60, 1, 5000), good(1000), load(0, 1), least(0), enough(0, 304999999), enough(0, 304999998))
        self.assertEqual(told[2:], [[1, 100], [304999999, 61], [1], [0]])

    def test_how_many_lots_there_are_is_not_looked_at(self):
        calls = [start(10, 100, 0), good(1, 50)] + [port(day) for day in range(1, 7)] + [load(0, 1), days(1)] * 6
        told = ask(*calls, persons(6, 9), persons(7, 1), load(0, 1), least(0), enough(0, 4), enough(0, 3))
        self.assertEqual(told[-4:], [[-28], [4, 11], [1], [0]])

    def test_what_was_ever_loaded_is_not_looked_at(self):
        told = ask(start(10, UNITS, 3), good(2), load(0, UNITS), give(0, UNITS), load(0, 1), least(0), enough(0, 66))
        self.assertEqual(told[4:], [[-62], [66, 11], [1]])

    def test_the_last_day_and_behind_it(self):
        self.assertEqual(ask(start(3, 9, 2), good(5), days(3), least(0), days(1), least(0))[3:],
                         [[10, 4], [4, 1, 0], [0, 4]])

    def test_the_ration_counts(self):
        self.around([start(10, 1000, 3), good(2), port(4), ration(0, 5)], [60, 4])


class Enough(unittest.TestCase):
    def test_n(self):
        for n, answer in ((0, 0), (10, 0), (11, 1), (12, 1), (UNITS, 1), (UNITS + 1, -22), (BIG, -22)):
            self.assertEqual(ask_last(start(10), good(), enough(0, n)), [answer], n)

    def test_with_what_is_there(self):
        told = ask(start(10), good(), load(0, 7), enough(0, 3), enough(0, 4), enough(0, 0), port(7), enough(0, 0))
        self.assertEqual(told[3:], [[0], [1], [0], [7], [1]])

    def test_nothing_is_loaded_by_it(self):
        told = ask(start(10, 20), good(), load(0, 5), enough(0, UNITS), give(0, 6), give(0, 5), load(0, 21), load(0, 20))
        self.assertEqual(told[3:], [[1], [-12], [0], [-62], [20, 100]])


class Need(unittest.TestCase):
    def test_day_by_day(self):
        calls = [start(10, 9, 3), good(2), persons(1, 0), persons(2, 5000), persons(10, 1)]
        for a, b, answer in ((0, 1, 6), (1, 2, 0), (2, 3, 10000), (0, 3, 10006), (10, 11, 2), (0, 11, 10050)):
            self.assertEqual(ask_last(*calls, need(0, a, b)), [answer], (a, b))

    def test_a_and_b_the_same(self):
        for day in (0, 5, 10, 11):
            self.assertEqual(ask_last(start(10), good(), need(0, day, day)), [0], day)
        for day in (12, BIG):
            self.assertEqual(ask_last(start(10), good(), need(0, day, day)), [-22], day)

    def test_b(self):
        for a, b, answer in ((3, 2, -22), (1, 0, -22), (11, 10, -22), (0, 11, 11), (0, 12, -22), (11, 12, -22),
                             (BIG, 0, -22), (0, BIG, -22), (BIG, 11, -22), (BIG, BIG, -22)):
            self.assertEqual(ask_last(start(10), good(), need(0, a, b)), [answer], (a, b))

    def test_the_most(self):
        self.assertEqual(ask_last(start(60, 1, 5000), good(1000, 1), need(0, 0, 61)), [305000000])

    def test_what_is_there_does_not_count(self):
        self.assertEqual(ask_last(start(10), good(), load(0, 50), need(0, 0, 5)), [5])

    def test_days_that_are_over_as_well(self):
        self.assertEqual(ask_last(start(10, 9, 3), good(2), days(4), need(0, 0, 6)), [36])

    def test_with_the_ration_told_last(self):
        told = ask(start(10, 9, 3), good(2), good(2), ration(0, 5), need(0, 0, 2), need(1, 0, 2))
        self.assertEqual(told[4:], [[30], [12]])
        self.assertEqual(ask_last(start(10, 9, 3), good(2), days(4), ration(0, 5), need(0, 3, 5)), [30])


if __name__ == "__main__":
    unittest.main()
