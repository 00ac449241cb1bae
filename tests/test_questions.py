"""Points 4 to 6, of one good: how long it lasts, what must be loaded, what is needed, what spoils, what is there."""

import unittest

from helper import BIG, UNITS, again, ask, ask_last, back, days, enough, give, good, lasts, least, load, look, lot
from helper import need, persons, port, ration, room, short, spoils, start, state, stock, sums, whole_look


class Lasts(unittest.TestCase):
    def test_the_first_day_on_which_something_lacks(self):
        for n, answer in ((1, 1), (2, 2), (9, 9), (10, 10), (11, -33), (12, -33)):
            self.assertEqual(ask_last(start(10), good(), load(0, n), lasts(0)), [answer], n)

    def test_nothing_there(self):
        self.assertEqual(ask_last(start(10), good(), lasts(0)), [0])
        self.assertEqual(ask_last(start(10), good(), days(4), lasts(0)), [4])

    def test_one_unit_missing_is_enough_to_lack(self):
        self.assertEqual(ask_last(start(10, 100, 3), good(2), load(0, 17), lasts(0)), [2])
        self.assertEqual(ask_last(start(10, 100, 3), good(2), load(0, 18), lasts(0)), [3])

    def test_on_the_last_day_or_not_at_all(self):
        self.assertEqual(ask_last(start(1), good(), load(0, 1), lasts(0)), [1])
        self.assertEqual(ask_last(start(1), good(), load(0, 2), lasts(0)), [-33])
        self.assertEqual(ask_last(start(60), good(), load(0, 60), lasts(0)), [60])
        self.assertEqual(ask_last(start(60), good(), load(0, 61), lasts(0)), [-33])

    def test_what_spoils_is_not_eaten(self):
        self.assertEqual(ask_last(start(10), good(1, 4), load(0, 99), lasts(0)), [5])

    def test_days_without_persons_are_passed(self):
        calls = [start(10), good(1, 4), load(0, 99)] + [persons(day, 0) for day in (5, 6, 7)]
        self.assertEqual(ask_last(*calls, lasts(0)), [8])

    def test_what_lacked_before_today_does_not_count(self):
        self.assertEqual(ask_last(start(10), good(), port(2), days(2), load(0, 9), lasts(0)), [-33])
        self.assertEqual(ask_last(start(10), good(), port(2), days(2), load(0, 8), lasts(0)), [10])

    def test_beyond_the_next_port(self):
        self.assertEqual(ask_last(start(10), good(), port(2), load(0, 5), lasts(0)), [5])

    def test_each_good_by_itself(self):
        self.assertEqual(ask(start(10), good(), good(2), load(0, 8), load(1, 8), lasts(0), lasts(1))[-2:], [[8], [4]])

    def test_asking_changes_nothing(self):
        told = ask(start(10), good(), load(0, 5), lasts(0), lasts(0), least(0), enough(0, 9), lasts(0), days(5), days(1))
        self.assertEqual(told[3:], [[5], [5], [6, 11], [1], [5], [5, 0, 0], [6, 1, 0]])


class Least(unittest.TestCase):
    def around(self, calls, answer):
        """With just so much it's enough, with one less it isn't; loaded in fact, it lasts just so."""
        told = ask(*calls, least(0))[-1]
        self.assertEqual(told, answer)
        self.assertEqual(ask_last(*calls, enough(0, told[0])), [1])
        if told[0] > 0:
            self.assertEqual(ask_last(*calls, enough(0, told[0] - 1)), [0])
            self.assertEqual(ask_last(*calls, load(0, told[0]), least(0)), [0, told[1]])
        if told[0] > 1:
            self.assertEqual(ask_last(*calls, load(0, told[0] - 1), least(0)), [1, told[1]])

    def test_up_to_the_next_port(self):
        self.around([start(10, 1000, 3), good(2), port(4)], [24, 4])

    def test_up_to_the_day_behind_the_last(self):
        self.around([start(10, 1000, 3), good(2)], [66, 11])

    def test_nothing_must_be_loaded(self):
        self.around([start(10, 1000, 3), good(2), port(4), load(0, 24)], [0, 4])
        self.around([start(10, 1000, 3), good(2), port(4), load(0, 99)], [0, 4])
        self.around([start(10, 1000, 0), good(2)], [0, 11])

    def test_to_what_is_there(self):
        self.around([start(10, 1000, 3), good(2), port(4), load(0, 23)], [1, 4])
        self.around([start(10, 1000, 3), good(2), port(4), load(0, 1)], [23, 4])

    def test_what_is_there_may_spoil_first(self):
        # Of 50 up to day 4, twelve are eaten on days 3 and 4; days 5 and 6 need twelve more.
        calls = [start(10, 1000, 3), good(2, 4), port(3), port(7), load(0, 68), days(3)]
        self.around(calls, [12, 7])

    def test_good_just_long_enough(self):
        self.around([start(10), good(1, 4), port(5)], [5, 5])
        self.around([start(10), good(1, 1), port(2)], [2, 2])

    def test_it_would_spoil_however_much_were_loaded(self):
        for life, first in ((4, 6), (1, 3), (9, 11)):
            calls = [start(12), good(1, life), port(first)]
            self.assertEqual(ask_last(*calls, least(0)), [-33])
            for n in (0, 1, 50, UNITS):
                self.assertEqual(ask_last(*calls, enough(0, n)), [0])

    def test_nobody_eats_where_it_would_be_spoilt(self):
        self.around([start(12), good(1, 4), port(6), persons(5, 0)], [5, 6])
        self.around([start(12), good(1, 4), port(7), persons(5, 0), persons(6, 0)], [5, 7])

    def test_whether_today_is_a_port_is_not_looked_at(self):
        told = ask(start(10, 1000, 3), good(2), port(4), days(2), load(0, 1), least(0), enough(0, 12), enough(0, 11))
        self.assertEqual(told[4:], [[-16], [12, 4], [1], [0]])

    def test_whether_there_is_room_is_not_looked_at(self):
        told = ask(start(60, 1, 5000), good(1000), load(0, 1), least(0), enough(0, 304999999), enough(0, 304999998))
        self.assertEqual(told[2:], [[1, 100], [304999999, 61], [1], [0]])

    def test_how_many_lots_there_are_is_not_looked_at(self):
        calls = [start(10, 100, 0), good(1, 50)] + [port(day) for day in range(1, 7)] + [load(0, 1), days(1)] * 6
        told = ask(*calls, persons(6, 9), persons(7, 1), load(0, 1), least(0), enough(0, 4), enough(0, 3))
        self.assertEqual(told[-4:], [[-28], [4, 11], [1], [0]])

    def test_what_was_ever_loaded_is_not_looked_at(self):
        told = ask(start(10, UNITS, 3), good(2), load(0, UNITS), give(0, UNITS), load(0, 1), least(0), enough(0, 66))
        self.assertEqual(told[4:], [[-62], [66, 11], [1]])

    def test_the_last_day_and_behind_it(self):
        self.assertEqual(ask(start(3, 9, 2), good(5), days(3), least(0), days(1), least(0))[3:],
                         [[10, 4], [4, 1, 0], [0, 4]])

    def test_the_ration_counts(self):
        self.around([start(10, 1000, 3), good(2), port(4), ration(0, 5)], [60, 4])


class Enough(unittest.TestCase):
    def test_n(self):
        for n, answer in ((0, 0), (10, 0), (11, 1), (12, 1), (UNITS, 1), (UNITS + 1, -22), (BIG, -22)):
            self.assertEqual(ask_last(start(10), good(), enough(0, n)), [answer], n)

    def test_with_what_is_there(self):
        told = ask(start(10), good(), load(0, 7), enough(0, 3), enough(0, 4), enough(0, 0), port(7), enough(0, 0))
        self.assertEqual(told[3:], [[0], [1], [0], [7], [1]])

    def test_nothing_is_loaded_by_it(self):
        told = ask(start(10, 20), good(), load(0, 5), enough(0, UNITS), give(0, 6), give(0, 5), load(0, 21), load(0, 20))
        self.assertEqual(told[3:], [[1], [-12], [0], [-62], [20, 100]])


class Need(unittest.TestCase):
    def test_day_by_day(self):
        calls = [start(10, 9, 3), good(2), persons(1, 0), persons(2, 5000), persons(10, 1)]
        for a, b, answer in ((0, 1, 6), (1, 2, 0), (2, 3, 10000), (0, 3, 10006), (10, 11, 2), (0, 11, 10050)):
            self.assertEqual(ask_last(*calls, need(0, a, b)), [answer], (a, b))

    def test_a_and_b_the_same(self):
        for day in (0, 5, 10, 11):
            self.assertEqual(ask_last(start(10), good(), need(0, day, day)), [0], day)
        for day in (12, BIG):
            self.assertEqual(ask_last(start(10), good(), need(0, day, day)), [-22], day)

    def test_b(self):
        for a, b, answer in ((3, 2, -22), (1, 0, -22), (11, 10, -22), (0, 11, 11), (0, 12, -22), (11, 12, -22),
                             (BIG, 0, -22), (0, BIG, -22), (BIG, 11, -22), (BIG, BIG, -22)):
            self.assertEqual(ask_last(start(10), good(), need(0, a, b)), [answer], (a, b))

    def test_the_most(self):
        self.assertEqual(ask_last(start(60, 1, 5000), good(1000, 1), need(0, 0, 61)), [305000000])

    def test_what_is_there_does_not_count(self):
        self.assertEqual(ask_last(start(10), good(), load(0, 50), need(0, 0, 5)), [5])

    def test_days_that_are_over_as_well(self):
        self.assertEqual(ask_last(start(10, 9, 3), good(2), days(4), need(0, 0, 6)), [36])

    def test_with_the_ration_told_last(self):
        told = ask(start(10, 9, 3), good(2), good(2), ration(0, 5), need(0, 0, 2), need(1, 0, 2))
        self.assertEqual(told[4:], [[30], [12]])
        self.assertEqual(ask_last(start(10, 9, 3), good(2), days(4), ration(0, 5), need(0, 3, 5)), [30])


class Spoils(unittest.TestCase):
    def test_good_up_to_today_it_spoils_behind_today(self):
        # Ten, good up to day 3; on day 3 seven are left, of which one is eaten.
        calls = [start(10, 100, 1), good(1, 3), load(0, 10), days(3)]
        self.assertEqual(ask_last(*calls, spoils(0)), [6])
        self.assertEqual(ask_last(*calls, port(4), spoils(0)), [6])
        self.assertEqual(ask_last(*calls, days(1), spoils(0)), [0])

    def test_up_to_the_day_ahead_of_the_next_port(self):
        for coming_port, answer in ((1, 0), (2, 0), (3, 0), (4, 6), (5, 6), (10, 6)):
            calls = [start(10, 100, 1), good(1, 3), load(0, 10), port(coming_port)]
            self.assertEqual(ask_last(*calls, spoils(0)), [answer], coming_port)

    def test_all_eaten_in_time(self):
        for n, answer in ((1, 0), (4, 0), (5, 1), (6, 2), (UNITS, UNITS - 4)):
            self.assertEqual(ask_last(start(10), good(1, 3), load(0, n), spoils(0)), [answer], n)

    def test_nothing_there(self):
        self.assertEqual(ask_last(start(10), good(1, 3), spoils(0)), [0])

    def test_no_port_behind_today(self):
        for life, answer in ((1, 8), (2, 7), (3, 6), (4, 0), (100, 0)):
            self.assertEqual(ask_last(start(3, 100, 1), good(1, life), load(0, 10), spoils(0)), [answer], life)

    def test_the_day_behind_the_last(self):
        for life in (4, 5, 50):
            told = ask(start(3, 100, 1), good(1, life), load(0, 20), days(4), spoils(0), stock(0))
            self.assertEqual(told[4:], [[0], [16, 1]], life)

    def test_lot_by_lot(self):
        # Nine up to day 2 and ten up to day 3: of the first seven spoil, of the second nine.
        calls = [start(10, 100, 1), good(1, 2), port(1), load(0, 10), days(1), load(0, 10)]
        self.assertEqual(ask_last(*calls, spoils(0)), [16])
        self.assertEqual(ask_last(*calls, port(3), spoils(0)), [7])
        self.assertEqual(ask_last(*calls, port(2), spoils(0)), [0])

    def test_what_spoilt_before_is_not_told_again(self):
        told = ask(start(10, 100, 0), good(1, 1), port(2), load(0, 5), days(2), spoils(0), load(0, 3), spoils(0))
        self.assertEqual(told[5:], [[0], [3, 3], [3]])

    def test_persons_and_ration_count(self):
        calls = [start(10, 100, 1), good(1, 3), load(0, 50)]
        self.assertEqual(ask_last(*calls, persons(2, 7), spoils(0)), [40])
        self.assertEqual(ask_last(*calls, persons(4, 7), spoils(0)), [46])
        self.assertEqual(ask_last(*calls, ration(0, 5), spoils(0)), [30])

    def test_each_good_by_itself(self):
        told = ask(start(10), good(1, 3), good(2, 4), load(0, 10), load(1, 30), spoils(0), spoils(1))
        self.assertEqual(told[5:], [[6], [20]])

    def test_as_much_as_the_sums_tell_more_of(self):
        calls = [start(10, 100, 1), good(1, 2), port(1), load(0, 10), days(1), load(0, 10), port(7)]
        told = ask(*calls, sums(0), spoils(0), days(5), sums(0), days(1), sums(0))[len(calls):]
        self.assertEqual(told, [[20, 19, 1, 0, 0, 0], [16], [6, 1, 0], [20, 0, 4, 16, 0, 2],
                                [7, 1, 1], [20, 0, 4, 16, 0, 3]])

    def test_the_last_day_of_60_and_the_most(self):
        self.assertEqual(ask_last(start(60, UNITS, 0), good(1000, 60), load(0, UNITS), spoils(0)), [UNITS])
        self.assertEqual(ask_last(start(60, UNITS, 0), good(1000, 61), load(0, UNITS), spoils(0)), [0])


class Stock(unittest.TestCase):
    def test_how_much_then_how_many_lots(self):
        told = ask(start(10, 100, 1), good(1, 50), good(1, 50), port(2), stock(0), load(0, 10), stock(0), load(0, 3),
                   stock(0), days(2), stock(0), load(0, 7), stock(0), stock(1))
        self.assertEqual([told[n] for n in (4, 6, 8, 10, 12, 13)], [[0, 0], [10, 1], [13, 1], [11, 1], [18, 2], [0, 0]])

    def test_a_lot_without_anything_is_none(self):
        calls = [start(10, 100, 1), good(1, 50), port(1), load(0, 10), days(1), load(0, 7)]
        self.assertEqual(ask(*calls, give(0, 8), stock(0), give(0, 1), stock(0))[-4:], [[8], [8, 2], [7], [7, 1]])
        self.assertEqual(ask(*calls, days(8), stock(0), days(1), stock(0))[-4:], [[9, 0, 0], [8, 2], [10, 0, 0], [7, 1]])

    def test_what_is_spoilt_is_not_there(self):
        told = ask(start(10, 100, 1), good(1, 2), load(0, 10), days(2), stock(0), days(1), stock(0))
        self.assertEqual(told[3:], [[2, 0, 0], [8, 1], [3, 0, 0], [0, 0]])

    def test_the_most(self):
        self.assertEqual(ask_last(start(), good(), load(0, UNITS), stock(0)), [UNITS, 1])


class Lot(unittest.TestCase):
    def six(self):
        calls = [start(10, 1000, 0), good(1, 50), good(1, 50)] + [port(day) for day in range(1, 6)]
        for day in range(6):
            calls = calls + [load(0, 20 + day), days(1)]
        return calls

    def test_from_the_one_good_for_the_shortest_time_on(self):
        told = ask(*self.six(), *[lot(0, i) for i in range(6)])[-6:]
        self.assertEqual(told, [[20 + i, 50 + i] for i in range(6)])

    def test_behind_the_last_lot(self):
        for i in (6, 7, BIG):
            self.assertEqual(ask_last(*self.six(), lot(0, i)), [-6], i)
        told = ask(start(), good(1, 9), load(0, 4), lot(0, 0), lot(0, 1), lot(0, BIG))
        self.assertEqual(told[3:], [[4, 9], [-6], [-6]])

    def test_a_good_without_a_lot(self):
        for i in (0, 1, BIG):
            self.assertEqual(ask_last(*self.six(), lot(1, i)), [-6], i)
        self.assertEqual(ask(start(), good(), load(0, 4), give(0, 4), lot(0, 0))[-1], [-6])

    def test_a_good_that_is_not_there(self):
        for g in (2, 6, BIG):
            for i in (0, 1, 6, BIG):
                self.assertEqual(ask_last(*self.six(), lot(g, i)), [-2], (g, i))

    def test_numbered_anew_when_the_first_is_gone(self):
        told = ask(*self.six(), give(0, 19), lot(0, 0), give(0, 2), lot(0, 0), lot(0, 4), lot(0, 5))
        self.assertEqual(told[-5:], [[1, 50], [114], [20, 51], [25, 55], [-6]])

    def test_loaded_on_the_same_day_it_is_the_same_lot(self):
        told = ask(start(), good(1, 9), load(0, 4), load(0, 5), lot(0, 0), lot(0, 1))
        self.assertEqual(told[4:], [[9, 9], [-6]])

    def test_good_up_to_today_it_is_there_and_then_not(self):
        told = ask(start(10, 100, 1), good(1, 2), load(0, 10), days(2), lot(0, 0), days(1), lot(0, 0))
        self.assertEqual(told[3:], [[2, 0, 0], [8, 2], [3, 0, 0], [-6]])


class Look(unittest.TestCase):
    def test_what_a_person_eats_then_how_long_it_is_good(self):
        told = ask(start(), good(7, 3), good(1000, 1), good(1, 100), look(0), look(1), look(2), look(3))
        self.assertEqual(told[4:], [[7, 3], [1000, 1], [1, 100], [-2]])

    def test_the_ration_told_last(self):
        told = ask(start(), good(7, 3), ration(0, 9), look(0), ration(0, 1001), look(0), days(4), look(0))
        self.assertEqual(told[3:], [[9, 3], [-22], [9, 3], [4, 1, 0], [9, 3]])


class Sums(unittest.TestCase):
    def test_loaded_then_there_eaten_spoilt_given_lacked(self):
        # Six a day on days 0, 1 and 2; the eight left then spoil, and on days 3 and 4 twelve lack.
        calls = [start(10, 100, 2), good(3, 2), port(5), load(0, 30), give(0, 4), days(5)]
        self.assertEqual(ask_last(*calls, sums(0)), [30, 0, 18, 8, 4, 12])
        self.assertEqual(ask_last(*calls, load(0, 5), sums(0)), [35, 5, 18, 8, 4, 12])
        self.assertEqual(ask_last(*calls, load(0, 5), ration(0, 1), days(1), sums(0)), [35, 3, 20, 8, 4, 12])

    def test_at_first(self):
        self.assertEqual(ask(start(), good(), good(), load(1, 3), sums(0), sums(1))[4:],
                         [[0, 0, 0, 0, 0, 0], [3, 3, 0, 0, 0, 0]])

    def test_part_of_what_is_needed_lacks(self):
        self.assertEqual(ask_last(start(10, 100, 3), good(2), load(0, 7), days(2), sums(0)), [7, 0, 7, 0, 0, 5])

    def test_what_was_refused_does_not_count(self):
        told = ask(start(10, 20, 3), good(2), load(0, 21), load(0, 20), give(0, 21), give(0, 0), days(12), sums(0))
        self.assertEqual(told[-1], [20, 20, 0, 0, 0, 0])

    def test_behind_the_last_day(self):
        calls = [start(2, 100, 1), good(5, 1), load(0, 20), days(3)]
        self.assertEqual(ask(*calls, sums(0), days(1), sums(0))[4:], [[20, 0, 10, 10, 0, 5], [-75], [20, 0, 10, 10, 0, 5]])

    def test_the_most(self):
        calls = [start(60, UNITS, 5000), good(1000, 100)]
        self.assertEqual(ask_last(*calls, days(60), days(1), sums(0)), [0, 0, 0, 0, 0, 305000000])
        self.assertEqual(ask_last(*calls, load(0, UNITS), days(60), days(1), sums(0)),
                         [UNITS, UNITS - 305000000, 305000000, 0, 0, 0])
        self.assertEqual(ask_last(*calls, load(0, UNITS), give(0, UNITS), sums(0)), [UNITS, 0, 0, 0, UNITS, 0])


class AllOfThem(unittest.TestCase):
    BEFORE = [start(10, 100, 1), good(1, 2), good(2, 9), port(1), load(0, 10), days(1), load(0, 10), back()]
    CALLS = (spoils, stock, look, sums, lasts, least)

    def test_a_good_that_is_not_there(self):
        for g in (2, 3, 5, 6, 2 ** 31, BIG):
            for call in self.CALLS:
                self.assertEqual(ask_last(*self.BEFORE, call(g)), [-2], (call, g))
                self.assertEqual(ask_last(start(), call(g)), [-2], (call, g))

    def test_no_goods_at_all(self):
        for call in (spoils(0), stock(0), lot(0, 0), look(0), sums(0)):
            self.assertEqual(ask_last(start(), call), [-2], call)

    def test_refused_all_is_as_it_was(self):
        looks = whole_look() + [state(), again(), state()]
        without = ask(*self.BEFORE, *looks)[len(self.BEFORE):]
        for call in (spoils(2), stock(2), lot(2, 0), lot(1, 0), lot(0, 1), look(2), sums(2), sums(BIG), lot(BIG, BIG)):
            told = ask(*self.BEFORE, call, *looks)[len(self.BEFORE):]
            self.assertIn(told[0], ([-2], [-6]), call)
            self.assertEqual(told[1:], without, call)

    def test_asking_changes_nothing(self):
        looks = whole_look() + [state(), again(), state()]
        without = ask(*self.BEFORE, *looks)[len(self.BEFORE):]
        for call in (lasts(0), least(1), enough(0, 5), need(0, 0, 9), spoils(0), stock(0), lot(0, 0), look(0), sums(0),
                     short(), room()):
            told = ask(*self.BEFORE, call, call, *looks)[len(self.BEFORE):]
            self.assertGreaterEqual(told[0][0], 0, call)
            self.assertEqual(told[0], told[1], call)
            self.assertEqual(told[2:], without, call)


if __name__ == "__main__":
    unittest.main()
