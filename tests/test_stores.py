"""Point 3: loading, giving away, and how days go by."""

import unittest

from helper import BIG, UNITS, ask, ask_last, days, enough, give, good, lasts, least, load, need, persons, port
from helper import ration, start, whole_look


class Loading(unittest.TestCase):
    def test_how_much_there_is_and_up_to_when_good(self):
        told = ask(start(), good(1, 1), good(1, 100), load(0, 5), load(1, 6), load(0, 7), load(1, 1))
        self.assertEqual(told[3:], [[5, 1], [6, 100], [12, 1], [7, 100]])

    def test_good_that_many_days_more_than_the_day_of_loading(self):
        self.assertEqual(ask_last(start(60), good(1, 100), port(60), days(60), load(0, 1)), [1, 160])
        self.assertEqual(ask_last(start(60), good(1, 7), port(9), days(9), load(0, 1)), [1, 16])

    def test_n_of_0(self):
        self.assertEqual(ask_last(start(), good(), load(0, 0)), [-22])

    def test_n_of_0_is_told_ahead_of_no_port(self):
        self.assertEqual(ask_last(start(), good(), days(1), load(0, 0)), [-22])

    def test_no_port_is_told_ahead_of_no_room(self):
        self.assertEqual(ask_last(start(room=5), good(), days(1), load(0, 6)), [-16])
        self.assertEqual(ask_last(start(room=5), good(), days(1), load(0, BIG)), [-16])

    def test_no_room_for_one_more_unit(self):
        told = ask(start(room=5), good(), load(0, 6), load(0, 5), load(0, 1), give(0, 1), load(0, 2), load(0, 1))
        self.assertEqual(told[2:], [[-62], [5, 100], [-62], [4], [-62], [5, 100]])

    def test_room_is_for_all_goods(self):
        told = ask(start(room=10), good(), good(), load(0, 6), load(1, 5), load(1, 4), load(0, 1), load(1, 1))
        self.assertEqual(told[3:], [[6, 100], [-62], [4, 100], [-62], [-62]])

    def test_room_of_one_and_the_most(self):
        self.assertEqual(ask(start(room=1), good(), load(0, 2), load(0, 1))[2:], [[-62], [1, 100]])
        self.assertEqual(ask(start(), good(), load(0, UNITS + 1), load(0, UNITS))[2:], [[-62], [UNITS, 100]])
        self.assertEqual(ask_last(start(), good(), load(0, BIG)), [-62])

    def test_what_is_eaten_or_spoilt_leaves_room(self):
        told = ask(start(10, 10, 2), good(1, 1), port(1), port(2), load(0, 10), days(1), load(0, 3), load(0, 2),
                   days(1), load(0, 9), load(0, 8))
        # Behind day 1 six of the first ten spoil; the two of day 1 stay.
        self.assertEqual(told[4:], [[10, 1], [1, 0, 1], [-62], [10, 2], [2, 0, 1], [-62], [10, 3]])

    def test_more_than_the_most_ever_loaded(self):
        told = ask(start(), good(), good(), load(0, UNITS), give(0, UNITS), load(0, 1), load(1, UNITS))
        self.assertEqual(told[3:], [[UNITS, 100], [0], [-62], [UNITS, 100]])

    def test_just_the_most_ever_loaded(self):
        told = ask(start(), good(), load(0, UNITS - 5), give(0, 100), load(0, 6), load(0, 5), load(0, 1))
        self.assertEqual(told[2:], [[UNITS - 5, 100], [UNITS - 105], [-62], [UNITS - 100, 100], [-62]])

    def test_ever_loaded_counts_what_was_eaten(self):
        told = ask(start(3, UNITS, 5000), good(1000, 1), port(1), load(0, UNITS), days(1), load(0, 1))
        self.assertEqual(told[3:], [[UNITS, 1], [1, 0, 1], [-62]])

    def six_lots(self):
        calls = [start(10, 100, 0), good(1, 50), good(1, 50)] + [port(day) for day in range(1, 9)]
        for day in range(6):
            calls = calls + [load(0, 2), load(0, 1), days(1)]
        return calls

    def test_two_loads_on_one_day_are_one_lot(self):
        told = ask(*self.six_lots())
        self.assertEqual([answer for answer in told if len(answer) == 2],
                         [[amount, 50 + day] for day in range(6) for amount in (3 * day + 2, 3 * day + 3)])

    def test_the_seventh_lot(self):
        self.assertEqual(ask(*self.six_lots(), load(0, 1), load(1, 1))[-2:], [[-28], [1, 56]])

    def test_no_room_is_told_ahead_of_too_many_lots(self):
        self.assertEqual(ask(*self.six_lots(), load(0, 83), load(0, 82))[-2:], [[-62], [-28]])

    def test_into_the_sixth_lot_on_its_day(self):
        self.assertEqual(ask(*self.six_lots()[:-1], load(0, 1))[-1], [19, 55])

    def test_a_lot_given_away_is_none_any_more(self):
        self.assertEqual(ask(*self.six_lots(), give(0, 2), load(0, 1), give(0, 1), load(0, 1))[-4:],
                         [[16], [-28], [15], [16, 56]])

    def test_a_lot_eaten_up_is_none_any_more(self):
        self.assertEqual(ask(*self.six_lots(), persons(6, 2), days(1), load(0, 1))[-1], [-28])
        self.assertEqual(ask(*self.six_lots(), persons(6, 3), days(1), load(0, 1))[-1], [16, 57])

    def test_a_lot_spoilt_is_none_any_more(self):
        calls = [start(10, 100, 0), good(1, 6)] + [port(day) for day in range(1, 9)] + [load(0, 1), days(1)] * 6
        self.assertEqual(ask_last(*calls, load(0, 1)), [-28])
        self.assertEqual(ask_last(*calls, days(1), load(0, 1)), [6, 13])

    def test_behind_the_last_day_there_is_no_port(self):
        self.assertEqual(ask(start(1, 9, 0), good(), days(2), load(0, 1), load(0, 0), load(1, 1))[3:],
                         [[-16], [-22], [-2]])

    def test_refused_all_is_as_it_was(self):
        before = [start(10, 20, 1), good(), good(), load(0, 9)]
        refused = [load(0, 0), load(0, 12), load(2, 1), load(1, BIG), load(BIG, BIG)]
        looks = whole_look() + [load(0, 11), load(1, 1)]
        told = ask(*before, *refused, *looks)[len(before):]
        self.assertEqual(told[:5], [[-22], [-62], [-2], [-62], [-2]])
        self.assertEqual(told[5:], ask(*before, *looks)[len(before):])


class Giving(unittest.TestCase):
    def test_how_much_there_is(self):
        told = ask(start(), good(), load(0, 10), give(0, 3), give(0, 7), give(0, 1))
        self.assertEqual(told[3:], [[7], [0], [-12]])

    def test_n(self):
        for n, answer in ((0, -22), (1, 9), (10, 0), (11, -12), (BIG, -12)):
            self.assertEqual(ask_last(start(), good(), load(0, 10), give(0, n)), [answer], n)

    def test_n_of_0_where_nothing_is(self):
        self.assertEqual(ask(start(), good(), give(0, 0), give(0, 1))[2:], [[-22], [-12]])

    def test_of_another_good_nothing_is_given(self):
        self.assertEqual(ask(start(), good(), good(), load(0, 5), load(1, 5), give(0, 5), give(1, 6), give(1, 5))[5:],
                         [[0], [-12], [0]])

    def test_of_the_first_lot_first(self):
        calls = [start(10, 100, 1), good(1, 3), port(2), persons(0, 0), persons(1, 0), load(0, 5), days(2), load(0, 5)]
        # Of five up to day 3 and five up to day 5, those left of the first spoil behind day 3.
        self.assertEqual(ask(*calls, days(2), give(0, 6), give(0, 5))[-2:], [[-12], [0]])
        self.assertEqual(ask(*calls, give(0, 3), days(2), give(0, 6), give(0, 5))[-2:], [[-12], [0]])
        self.assertEqual(ask(*calls, give(0, 6), days(2), give(0, 3), give(0, 2))[-2:], [[-12], [0]])

    def test_also_where_there_is_no_port(self):
        self.assertEqual(ask_last(start(), good(), load(0, 9), days(3), give(0, 2)), [4])

    def test_also_when_the_voyage_is_over(self):
        self.assertEqual(ask(start(1), good(), load(0, 9), days(2), give(0, 8), give(0, 2))[4:], [[-12], [5]])

    def test_refused_all_is_as_it_was(self):
        told = ask(start(), good(), load(0, 9), give(0, 10), give(0, 0), give(1, 1), give(BIG, BIG), lasts(0), give(0, 9))
        self.assertEqual(told[3:], [[-12], [-22], [-2], [-2], [9], [0]])


class Days(unittest.TestCase):
    def test_n(self):
        for n, answer in ((0, [-22]), (1, [1, 0, 0]), (60, [60, 0, 0]), (61, [-22]), (BIG, [-22])):
            self.assertEqual(ask_last(start(60), days(n)), answer, n)

    def test_up_to_the_day_behind_the_last_and_one_later(self):
        for n, answer in ((4, [4, 0, 0]), (5, [5, 0, 0]), (6, [-75]), (60, [-75]), (61, [-22])):
            self.assertEqual(ask_last(start(4), days(n)), answer, n)
        self.assertEqual(ask(start(60), days(60), days(2), days(1), days(1))[1:],
                         [[60, 0, 0], [-75], [61, 0, 0], [-75]])

    def test_not_as_told_is_told_ahead_of_too_late(self):
        self.assertEqual(ask(start(4), days(5), days(0), days(61), days(BIG), days(1))[2:],
                         [[-22], [-22], [-22], [-75]])

    def test_the_goods_that_lacked_as_bits(self):
        calls = [start(10)] + [good()] * 6
        for lacking in range(64):
            loads = [load(g, 1) for g in range(6) if not lacking // 2 ** g % 2]
            self.assertEqual(ask_last(*calls, *loads, days(1)), [1, lacking, 0], lacking)

    def test_lacked_on_any_of_the_days(self):
        calls = [start(10, 100, 1), good(), good(), port(5), load(0, 2), load(1, 9)]
        self.assertEqual(ask_last(*calls, days(2)), [2, 0, 0])
        self.assertEqual(ask_last(*calls, days(3)), [3, 1, 0])
        self.assertEqual(ask_last(*calls, days(5)), [5, 1, 1])

    def test_what_lacked_before_is_not_told_again(self):
        told = ask(start(10, 100, 1), good(), port(2), days(2), load(0, 4), days(2), days(2), days(1))
        self.assertEqual(told[3:], [[2, 1, 1], [4, 102], [4, 0, 0], [6, 0, 0], [7, 1, 0]])

    def test_part_of_what_is_needed_lacks(self):
        told = ask(start(10, 100, 3), good(2), load(0, 7), days(1), days(1), give(0, 1))
        self.assertEqual(told[3:], [[1, 0, 0], [2, 1, 0], [-12]])

    def test_nobody_aboard_nothing_lacks(self):
        self.assertEqual(ask(start(10, 100, 0), good(1000), lasts(0), least(0), days(11))[2:],
                         [[-33], [0, 11], [11, 0, 0]])

    def test_good_up_to_a_day_that_with_it(self):
        # Loaded on day 0 with life 3: eaten on days 0 to 3, and what's left spoils behind day 3.
        calls = [start(10, 100, 1), good(1, 3), load(0, 10)]
        self.assertEqual(ask(*calls, days(3), give(0, 8), give(0, 7))[3:], [[3, 0, 0], [-12], [0]])
        self.assertEqual(ask(*calls, days(4), give(0, 1), days(1))[3:], [[4, 0, 0], [-12], [5, 1, 0]])

    def test_life_1(self):
        calls = [start(10, 100, 1), good(1, 1), load(0, 10)]
        self.assertEqual(ask(*calls, days(1), give(0, 10), give(0, 1))[3:], [[1, 0, 0], [-12], [8]])
        self.assertEqual(ask(*calls, days(2), give(0, 1))[3:], [[2, 0, 0], [-12]])
        self.assertEqual(ask(*calls, days(3), give(0, 1))[3:], [[3, 1, 0], [-12]])

    def test_eaten_before_it_spoils_on_the_last_good_day(self):
        calls = [start(10, 100, 1), good(1, 2), load(0, 3)]
        self.assertEqual(ask(*calls, lasts(0), days(3))[3:], [[3], [3, 0, 0]])

    def test_of_the_first_lot_first_then_of_the_next(self):
        calls = [start(10, 100, 4), good(1, 2), port(1), persons(0, 0), load(0, 6), days(1), load(0, 5)]
        # Day 1: four of the first; day 2: two of the first, two of the next; day 3: the last three, one lacks.
        self.assertEqual(ask(*calls, days(1), days(1), give(0, 4), give(0, 3))[7:], [[2, 0, 0], [3, 0, 0], [-12], [0]])
        self.assertEqual(ask_last(*calls, days(3)), [4, 1, 0])

    def test_spoils_behind_the_last_day_too(self):
        self.assertEqual(ask_last(start(1, 100, 0), good(1, 1), load(0, 5), days(2), give(0, 1)), [-12])
        self.assertEqual(ask_last(start(1, 100, 0), good(1, 2), load(0, 5), days(2), give(0, 1)), [4])

    def test_refused_all_is_as_it_was(self):
        before = [start(10, 1000, 3), good(2, 4), good(1, 9), load(0, 30), load(1, 30), days(3)]
        looks = whole_look() + [days(1)]
        refused = [days(0), days(61), days(9), days(BIG)]
        told = ask(*before, *refused, *looks)[len(before):]
        self.assertEqual(told[:4], [[-22], [-22], [-75], [-22]])
        self.assertEqual(told[4:], ask(*before, *looks)[len(before):])


class BehindTheLastDay(unittest.TestCase):
    def test_every_call(self):
        before = [start(2, 100, 1), good(2, 50), port(1), load(0, 20), days(3)]
        for call, answer in (
            (good(1, 1), [1]), (persons(2, 1), [-22]), (persons(3, 1), [-22]), (port(2, 1), [-22]),
            (port(3, 1), [-22]), (load(0, 1), [-16]), (give(0, 14), [0]), (give(0, 15), [-12]),
            (ration(0, 9), [2]), (days(1), [-75]), (lasts(0), [-33]), (least(0), [0, 3]),
            (enough(0, 0), [1]), (enough(0, UNITS), [1]), (enough(0, UNITS + 1), [-22]),
            (need(0, 0, 3), [6]), (need(0, 3, 3), [0]), (need(0, 0, 4), [-22]), (start(), [0]),
        ):
            self.assertEqual(ask_last(*before, call), answer, call)


if __name__ == "__main__":
    unittest.main()
