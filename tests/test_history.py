"""Point 7: changes taken back and done again, and how the voyage stands."""

import unittest

from helper import BIG, again, ask, ask_last, back, changes_left, coming, days, enough, give, good, lasts, least, load
from helper import look, lot, need, persons, port, ration, room, short, spoils, start, state, stock, sums, who
from helper import whole_look

# Two goods, two lots of the first; on day 3 a port; some was eaten, spoilt, given away, and lacked.
BEFORE = [
    start(10, 200, 2), good(3, 2), good(1, 20), port(2), port(3), load(0, 40), load(1, 30), give(0, 3), days(2),
    load(0, 20), days(1), load(0, 9), persons(6, 5),
]
CHANGES = (
    good(4, 6), persons(5, 9), persons(3, 0), port(7), load(0, 5), load(1, 5), give(0, 1), give(0, 29), ration(1, 8),
    days(1), days(8),
)
REFUSED = (
    good(0, 1), persons(2, 1), persons(11, 1), port(3, 0), port(9, 0), port(5, 2), load(2, 1), load(0, 0), load(0, 500),
    give(2, 1), give(0, 0), give(0, 500), ration(2, 1), ration(0, 0), days(0), days(9), days(BIG), start(0, 1, 1),
    start(61, 1, 1), start(1, 0, 1), start(1, 1, 5001), lot(0, 6), who(11), need(0, 1, 0), enough(0, BIG), sums(2),
    lasts(2), least(2), spoils(2), stock(2), look(2),
)
LOOKS = whole_look()


def looked(*calls):
    """All that can be asked behind these calls, but for the changes that are left."""
    return ask(*BEFORE, *calls, *LOOKS)[len(BEFORE) + len(calls):]


def tell(n):
    """Changes that can be told from one another by what sd_persons answers."""
    return [persons(4, 100 + k) for k in range(n)]


class EachKind(unittest.TestCase):
    def test_the_changes_are_none_that_is_refused_and_are_all_seen(self):
        self.assertTrue(all(answer[0] >= 0 for answer in ask(*BEFORE)))
        self.assertEqual({change[0] for change in CHANGES}, set(range(1, 8)))
        for change in CHANGES:
            self.assertGreaterEqual(ask_last(*BEFORE, change)[0], 0, change)
            self.assertNotEqual(looked(change), looked(), change)

    def test_taken_back_all_is_as_before(self):
        for change in CHANGES:
            self.assertEqual(looked(change, back()), looked(), change)

    def test_done_again_all_is_as_behind_it(self):
        for change in CHANGES:
            self.assertEqual(looked(change, back(), again()), looked(change), change)
            self.assertEqual(looked(change, back(), again(), back()), looked(), change)
            self.assertEqual(looked(change, back(), again(), back(), again()), looked(change), change)

    def test_the_answers_and_what_is_left(self):
        for change in CHANGES:
            told = ask(*BEFORE, change, state(), back(), state(), again(), state())[len(BEFORE) + 1:]
            self.assertEqual(told[0][-2:], [13, 0], change)
            self.assertEqual([told[1], told[2][-2:]], [[12], [12, 1]], change)
            self.assertEqual([told[3], told[4]], [[0], told[0]], change)

    def test_two_of_them_back_and_again(self):
        for first in CHANGES:
            for second in CHANGES:
                if ask(*BEFORE, first, second)[-1][0] < 0:
                    continue
                self.assertEqual(looked(first, second, back(), back()), looked(), (first, second))
                self.assertEqual(looked(first, second, back()), looked(first), (first, second))
                self.assertEqual(looked(first, second, back(), back(), again()), looked(first), (first, second))
                self.assertEqual(looked(first, second, back(), back(), again(), again()), looked(first, second))

    def test_behind_one_taken_back_all_goes_on_as_if_it_had_never_been(self):
        for change in CHANGES:
            for then in CHANGES:
                self.assertEqual(looked(change, back(), then), looked(then), (change, then))
                self.assertEqual(looked(change, back(), then, back()), looked(), (change, then))

    def test_what_tells_what_was_is_a_change_too(self):
        for change in (persons(6, 5), ration(0, 3)):
            self.assertEqual(looked(change), looked())
            self.assertEqual(changes_left(BEFORE + [change]), [13, 0])
            self.assertEqual(ask(*BEFORE, change, back(), again())[-2:], [[12], [0]])


class NoneLeft(unittest.TestCase):
    def test_none_to_take_back(self):
        self.assertEqual(ask(start(), back(), back(), state())[1:], [[-2], [-2], [0, 10, 0, 1, 0, 0]])
        self.assertEqual(ask(start(), good(), back(), back(), back())[2:], [[0], [-2], [-2]])

    def test_none_to_be_done_again(self):
        self.assertEqual(ask(start(), again(), good(), again(), back(), again(), again())[1:],
                         [[-2], [0], [-2], [0], [0], [-2]])

    def test_refused_all_is_as_it_was(self):
        told = ask(*BEFORE, again(), state(), *LOOKS)[len(BEFORE):]
        self.assertEqual([told[0], told[1][-2:]], [[-2], [12, 0]])
        self.assertEqual(told[2:], looked())
        taken = [back()] * 12
        told = ask(*BEFORE, *taken, back(), *LOOKS, state(), again(), again())[len(BEFORE) + 12:]
        self.assertEqual(told[0], [-2])
        self.assertEqual(told[1:-3], looked(*taken))
        self.assertEqual(told[-3:], [[0, 10, 0, 1, 0, 12], [11], [10]])

    def test_asking_is_no_change(self):
        told = ask(start(), *LOOKS, state(), back())
        self.assertEqual(told[-2:], [[0, 10, 0, 1, 0, 0], [-2]])


class Thirty(unittest.TestCase):
    def test_thirty_taken_back_and_a_31st_not(self):
        told = ask(start(), *tell(30), *[back()] * 31, who(4))
        self.assertEqual(told[31:], [[n] for n in range(29, -1, -1)] + [[-2], [1, 0]])

    def test_29(self):
        told = ask(start(), *tell(29), *[back()] * 30, who(4))
        self.assertEqual(told[30:], [[n] for n in range(28, -1, -1)] + [[-2], [1, 0]])

    def test_more_than_30_made(self):
        for count in (31, 35, 60, 200):
            told = ask(start(), *tell(count), state(), *[back()] * 31, who(4), state())[count + 1:]
            self.assertEqual(told[0][-2:], [30, 0], count)
            self.assertEqual(told[1:-2], [[n] for n in range(29, -1, -1)] + [[-2]], count)
            # The changes ahead of the last 30 stay.
            self.assertEqual(told[-2], [100 + count - 31, 0], count)
            self.assertEqual(told[-1][-2:], [0, 30], count)

    def test_all_30_done_again_in_order(self):
        for count in (30, 31, 47):
            calls = [start(), *tell(count), *[back()] * 30]
            for n in range(30):
                calls = calls + [again(), who(4)]
            told = ask(*calls, again(), state())[count + 31:]
            self.assertEqual(told[0:60:2], [[n] for n in range(29, -1, -1)], count)
            self.assertEqual(told[1:60:2], [[100 + count - 30 + n, 0] for n in range(30)], count)
            self.assertEqual([told[60], told[61][-2:]], [[-2], [30, 0]], count)

    def test_done_again_they_can_be_taken_back_once_more(self):
        told = ask(start(), *tell(40), *[back()] * 30, *[again()] * 30, *[back()] * 31, who(4))
        self.assertEqual(told[-32:], [[n] for n in range(29, -1, -1)] + [[-2], [109, 0]])

    def test_some_taken_back_then_others_made(self):
        # Of 40 ten are taken back, so twenty of the 30 are left; five more make it 25.
        told = ask(start(), *tell(40), *[back()] * 10, *tell(5), state(), *[back()] * 26, who(4))[56:]
        self.assertEqual(told[0][-2:], [25, 0])
        self.assertEqual(told[1:], [[n] for n in range(24, -1, -1)] + [[-2], [109, 0]])

    def test_in_the_order_of_each_kind(self):
        line = [good(1, 9), good(2, 3), load(0, 50), load(1, 60), port(4), persons(1, 6), days(1), give(0, 2),
                ration(1, 1), days(3), load(0, 1), port(4 + 3), days(2), persons(7, 0), good(5, 5)]
        line = line + [days(1), load(2, 9), give(2, 1), days(1), ration(2, 7)]
        seen = []
        for n in range(len(line) + 1):
            seen.append(ask(start(), *line[:n], *whole_look(3))[n + 1:])
        for n in range(len(line) + 1):
            calls = [start()] + line + [back()] * n
            self.assertEqual(ask(*calls, *whole_look(3))[len(calls):], seen[len(line) - n], n)
            calls = [start()] + line + [back()] * len(line) + [again()] * n
            self.assertEqual(ask(*calls, *whole_look(3))[len(calls):], seen[n], n)
        self.assertTrue(all(answer[0] >= 0 for answer in ask(start(), *line)))


class TillAnotherChange(unittest.TestCase):
    def test_behind_another_change_nothing_is_to_be_done_again(self):
        for change in CHANGES:
            told = ask(*BEFORE, persons(4, 50), persons(4, 60), back(), back(), change, again(), state(), back(), again())
            told = told[len(BEFORE) + 4:]
            self.assertEqual([told[1], told[2][-2:]], [[-2], [13, 0]], change)
            # Only that one can be taken back and done again.
            self.assertEqual(told[3:], [[12], [0]], change)
            self.assertEqual(looked(persons(4, 50), back(), change, again()), looked(change), change)

    def test_behind_a_refused_one_it_can_still_be_done_again(self):
        for call in REFUSED:
            told = ask(*BEFORE, persons(4, 50), persons(4, 60), back(), back(), call, state(), again(), again(), who(4))
            told = told[len(BEFORE) + 4:]
            self.assertLess(told[0][0], 0, call)
            self.assertEqual(told[1][-2:], [12, 2], call)
            self.assertEqual(told[2:], [[1], [0], [60, 0]], call)
            self.assertEqual(looked(persons(4, 50), back(), call), looked(), call)

    def test_behind_what_only_asks_too(self):
        told = ask(*BEFORE, persons(4, 50), persons(4, 60), back(), back(), *LOOKS, state(), again(), again(), again())
        self.assertEqual([told[-4][-2:], *told[-3:]], [[12, 2], [1], [0], [-2]])

    def test_what_can_be_taken_back_is_not_lost_by_a_refused_one(self):
        for call in REFUSED:
            told = ask(*BEFORE, call, back(), *LOOKS)[len(BEFORE):]
            self.assertEqual(told[1], [11], call)
            self.assertEqual(told[2:], looked(back()), call)


class Start(unittest.TestCase):
    def test_one_that_answers_0_clears_both(self):
        taken = BEFORE + [back(), back()]
        self.assertEqual(changes_left(taken), [10, 2])
        told = ask(*taken, start(10, 200, 2), state(), back(), again(), state(), good(), back(), again())[len(taken):]
        self.assertEqual(told, [[0], [0, 10, 0, 1, 0, 0], [-2], [-2], [0, 10, 0, 1, 0, 0], [0], [0], [0]])

    def test_a_refused_one_leaves_both(self):
        taken = BEFORE + [back(), back()]
        for refused in (start(0), start(61), start(1, 0), start(1, BIG), start(1, 1, 5001), start(BIG, BIG, BIG)):
            told = ask(*taken, refused, state(), again(), again(), *[back()] * 12, state())[len(taken):]
            self.assertEqual([told[0], told[1][-2:]], [[-22], [10, 2]])
            self.assertEqual(told[2:4], [[1], [0]])
            self.assertEqual(told[4:], [[n] for n in range(11, -1, -1)] + [[0, 10, 0, 1, 0, 12]])


class State(unittest.TestCase):
    def test_today_then_last_goods_ports_back_again(self):
        calls = [start(10, 100, 1), good(), good(), port(3), port(5), port(8), days(7), days(1), back(), state()]
        self.assertEqual(ask_last(*calls), [7, 10, 2, 4, 6, 1])

    def test_at_first(self):
        self.assertEqual(ask_last(start(1), state()), [0, 1, 0, 1, 0, 0])
        self.assertEqual(ask_last(start(60), state()), [0, 60, 0, 1, 0, 0])

    def test_ports_made_and_taken_away(self):
        told = ask(start(10), port(3), state(), port(5), state(), port(3, 0), state(), port(5, 0), state())
        self.assertEqual([answer[3] for answer in told[2::2]], [2, 3, 2, 1])

    def test_all_days_ports(self):
        self.assertEqual(ask_last(start(60), *[port(day) for day in range(1, 61)], state()), [0, 60, 0, 61, 30, 0])

    def test_ports_that_are_over_count(self):
        self.assertEqual(ask_last(start(10), port(2), days(9), state()), [9, 10, 0, 2, 2, 0])

    def test_the_day_behind_the_last(self):
        told = ask(start(3), good(), days(4), coming(), short(), room(), state())
        self.assertEqual(told[3:], [[4, 4, 0], [0, 0], [1000000000, 0], [4, 3, 1, 1, 2, 0]])

    def test_no_port_behind_today(self):
        self.assertEqual(ask_last(start(3), good(), days(1), state()), [1, 3, 1, 1, 2, 0])

    def test_six_goods(self):
        self.assertEqual(ask_last(start(3), *[good()] * 7, state()), [0, 3, 6, 1, 6, 0])


if __name__ == "__main__":
    unittest.main()
