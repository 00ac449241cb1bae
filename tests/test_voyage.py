"""Point 2: goods, persons, ports and rations."""

import unittest

from helper import BIG, ask, ask_last, days, good, lasts, least, load, need, persons, port, ration, start, whole_look


class Goods(unittest.TestCase):
    def test_per(self):
        for per, answer in ((0, -22), (1, 0), (1000, 0), (1001, -22), (BIG, -22)):
            self.assertEqual(ask_last(start(), good(per, 1)), [answer], per)

    def test_life(self):
        for life, answer in ((0, -22), (1, 0), (100, 0), (101, -22), (BIG, -22)):
            self.assertEqual(ask_last(start(), good(1, life)), [answer], life)

    def test_numbered_from_0_and_the_seventh(self):
        told = ask(start(), *[good(n + 1, n + 1) for n in range(7)], good(), lasts(5), lasts(6))
        self.assertEqual(told, [[0], [0], [1], [2], [3], [4], [5], [-28], [-28], [0], [-2]])

    def test_not_as_told_is_told_ahead_of_too_many(self):
        six = [start()] + [good()] * 6
        for call in (good(0, 1), good(1, 0), good(1001, 1), good(1, 101), good(BIG, BIG)):
            self.assertEqual(ask_last(*six, call), [-22], call)

    def test_each_has_its_own_numbers(self):
        told = ask(start(10, 1000, 3), good(5, 2), good(7, 9), need(0, 0, 1), need(1, 0, 1), load(0, 1), load(1, 1))
        self.assertEqual(told[3:], [[15], [21], [1, 2], [1, 9]])

    def test_a_refused_one_is_not_there(self):
        self.assertEqual(ask(start(), good(0, 1), lasts(0), good(1, 101), good(3, 3), need(0, 0, 2)),
                         [[0], [-22], [-2], [-22], [0], [6]])

    def test_also_when_the_voyage_is_over(self):
        self.assertEqual(ask(start(3), days(4), good(), good(1001, 1))[2:], [[0], [-22]])


class Persons(unittest.TestCase):
    def test_how_many_were_told_before(self):
        told = ask(start(10, 9, 7), persons(3, 0), persons(3, 5000), persons(3, 1), persons(4, 1))
        self.assertEqual(told[1:], [[7], [0], [5000], [7]])

    def test_n(self):
        for n, answer in ((0, 7), (5000, 7), (5001, -22), (BIG, -22)):
            self.assertEqual(ask_last(start(10, 9, 7), persons(3, n)), [answer], n)

    def test_today_over_last_and_behind(self):
        for day, answer in ((0, -22), (3, -22), (4, 7), (5, 7), (10, 7), (11, -22), (BIG, -22)):
            self.assertEqual(ask_last(start(10, 9, 7), days(4), persons(day, 1)), [answer], day)

    def test_day_0_at_first(self):
        self.assertEqual(ask_last(start(10, 9, 7), persons(0, 1)), [7])

    def test_behind_the_last_day_none(self):
        for day in (0, 10, 11):
            self.assertEqual(ask_last(start(10, 9, 7), days(11), persons(day, 1)), [-22], day)

    def test_so_many_eat_on_that_day_alone(self):
        told = ask(start(4, 1000, 2), good(3, 100), persons(1, 10), need(0, 0, 1), need(0, 1, 2), need(0, 2, 3),
                   load(0, 50), days(1), days(1), days(1), load(0, 1), lasts(0))
        self.assertEqual(told[3:6], [[6], [30], [6]])
        self.assertEqual(told[7:], [[1, 0, 0], [2, 0, 0], [3, 0, 0], [-16], [4]])

    def test_told_for_today_it_holds_today(self):
        self.assertEqual(ask_last(start(4, 1000, 2), good(3), load(0, 5), days(1), persons(1, 0), days(1)), [2, 0, 0])

    def test_refused_all_is_as_it_was(self):
        before = [start(10, 1000, 7), good(), good(), load(0, 100), days(3), persons(5, 2)]
        looks = whole_look()
        refused = [persons(2, 1), persons(11, 1), persons(5, 5001), persons(BIG, BIG)]
        told = ask(*before, *refused, *looks)[len(before):]
        self.assertEqual(told[:4], [[-22]] * 4)
        self.assertEqual(told[4:], ask(*before, *looks)[len(before):])


class Ports(unittest.TestCase):
    def test_the_next_port_is_answered(self):
        told = ask(start(10), port(5), port(8), port(3), port(3, 0), port(5, 0), port(8, 0))
        self.assertEqual(told[1:], [[5], [5], [3], [5], [8], [11]])

    def test_day(self):
        for day, answer in ((0, -22), (3, -22), (4, -22), (5, 5), (10, 10), (11, -22), (BIG, -22)):
            self.assertEqual(ask_last(start(10), days(4), port(day)), [answer], day)

    def test_day_0_at_first(self):
        for yes in (0, 1, 2):
            self.assertEqual(ask_last(start(10), port(0, yes)), [-22], yes)
        self.assertEqual(ask_last(start(10), port(1)), [1])

    def test_yes(self):
        for yes, answer in ((0, -17), (1, 3), (2, -22), (BIG, -22)):
            self.assertEqual(ask_last(start(10), port(3, yes)), [answer], yes)

    def test_it_is_so(self):
        told = ask(start(10), port(3, 0), port(3), port(3), port(3, 0), port(3, 0))
        self.assertEqual(told[1:], [[-17], [3], [-17], [11], [-17]])

    def test_not_as_told_is_told_ahead_of_so(self):
        for call in (port(0, 1), port(2, 1), port(2, 0), port(4, 0), port(4, 1), port(11, 0), port(5, 2)):
            self.assertEqual(ask_last(start(10), port(2), port(4), days(4), call), [-22], call)

    def test_behind_the_last_day_none(self):
        for day in (0, 10, 11, 12):
            self.assertEqual(ask_last(start(10), days(11), port(day)), [-22], day)

    def test_no_port_behind_today(self):
        self.assertEqual(ask_last(start(10), good(), least(0)), [11, 11])
        self.assertEqual(ask_last(start(10), good(), port(4), days(4), least(0)), [7, 11])
        self.assertEqual(ask_last(start(10), good(), port(4), days(3), least(0)), [1, 4])

    def test_ports_that_are_over_or_today_are_not_the_next(self):
        self.assertEqual(ask_last(start(10), port(2), port(4), days(4), port(9)), [9])

    def test_there_one_can_load(self):
        told = ask(start(10), good(1, 2), port(2), days(1), load(0, 1), days(1), load(0, 1), days(1), load(0, 1))
        self.assertEqual(told[3:], [[1, 1, 0], [-16], [2, 1, 1], [1, 4], [3, 0, 0], [-16]])

    def test_the_last_day_may_be_a_port(self):
        told = ask(start(2), good(), port(2), days(2), load(0, 1), least(0), days(1), load(0, 1))
        self.assertEqual(told[2:], [[2], [2, 1, 1], [1, 102], [0, 3], [3, 0, 0], [-16]])

    def test_refused_all_is_as_it_was(self):
        before = [start(10), good(), good(), port(4), port(7), days(2)]
        looks = whole_look()
        refused = [port(2, 1), port(4, 1), port(7, 2), port(5, 0), port(11, 1), port(BIG, BIG)]
        told = ask(*before, *refused, *looks)[len(before):]
        self.assertEqual(told[:6], [[-22], [-17], [-22], [-17], [-22], [-22]])
        self.assertEqual(told[6:], ask(*before, *looks)[len(before):])


class Rations(unittest.TestCase):
    def test_how_much_it_was(self):
        told = ask(start(), good(5, 1), ration(0, 1), ration(0, 1000), ration(0, 1000), ration(0, 5))
        self.assertEqual(told[2:], [[5], [1], [1000], [1000]])

    def test_per(self):
        for per, answer in ((0, -22), (1, 5), (1000, 5), (1001, -22), (BIG, -22)):
            self.assertEqual(ask_last(start(), good(5, 1), ration(0, per)), [answer], per)

    def test_so_much_is_eaten_from_now_on(self):
        told = ask(start(10, 1000, 2), good(5), good(5), load(0, 100), load(1, 100), days(2), ration(0, 40), lasts(0),
                   lasts(1), days(1), days(1), days(6), days(1))
        self.assertEqual(told[5:], [[2, 0, 0], [5], [3], [10], [3, 0, 0], [4, 1, 0], [10, 1, 0], [11, 3, 0]])

    def test_refused_all_is_as_it_was(self):
        told = ask(start(), good(5), ration(0, 0), ration(0, 1001), ration(1, 3), need(0, 0, 1), ration(0, 6))
        self.assertEqual(told[2:], [[-22], [-22], [-2], [5], [5]])

    def test_also_when_the_voyage_is_over(self):
        self.assertEqual(ask(start(3), good(5), days(4), ration(0, 6), ration(0, 7))[3:], [[5], [6]])


if __name__ == "__main__":
    unittest.main()
