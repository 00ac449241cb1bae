"""How calls and answers are written, and that nothing is changed or kept."""

import subprocess
import sys
import unittest

from helper import BIG, again, ask, ask_last, back, coming, days, enough, give, good, lasts, least, load, look, lot
from helper import need, persons, port, ration, room, short, spoils, start, state, stock, sums, who, whole_look
from shipstores.voyages import answers

LONG = [
    start(10, 1000, 2), good(3, 4), persons(1, 5), port(3), load(0, 50), give(0, 1), ration(0, 2), days(2),
    lasts(0), least(0), enough(0, 5), need(0, 0, 11), load(0, 5), days(1), load(0, 5),
    spoils(0), stock(0), lot(0, 1), look(0), who(1), coming(), short(), room(), sums(0), back(), state(), again(),
]


def joined(calls):
    return [number for call in calls for number in call]


class Written(unittest.TestCase):
    def test_every_call_and_its_answer_number_by_number(self):
        self.assertEqual(answers(joined(LONG)), [
            1, 0,           # start
            1, 0,           # good 0
            1, 2,           # persons before
            1, 3,           # the next port
            2, 50, 4,       # how much, good up to day 4
            1, 49,          # how much
            1, 3,           # the ration before
            3, 2, 0, 0,     # day 2: 4 and 10 were eaten, none lacked, no port
            1, 5,           # 35 and 4 a day: what's left behind day 4 spoils
            2, 0, 3,        # nothing must be loaded up to port 3
            1, 1,           # with 5 more it lasts too
            1, 50,          # ten days of 4, one of 10
            1, -16,         # day 2 is no port
            3, 3, 0, 1,     # day 3, a port
            2, 36, 7,       # 31 and 5 more, those good up to day 7
            1, 23,          # of 31 up to day 4 eight are eaten; the five up to day 7 are eaten in time
            2, 36, 2,       # two lots
            2, 5, 7,        # the second one, good up to day 7
            2, 2, 4,        # a person eats 2, it is good for 4 days
            2, 5, 0,        # five were aboard on day 1, no port
            3, 11, 3, 1,    # no port behind day 3, which is one
            2, 1, 1,        # good 0 does not last
            2, 964, 36,     # room for 964 more
            6, 55, 36, 18, 0, 1, 0,
            1, 8,           # the last load is taken back: eight changes are left
            6, 3, 10, 1, 2, 8, 1,
            1, 0,           # and done again
        ])

    def test_every_call_is_in_it(self):
        self.assertEqual({call[0] for call in LONG}, set(range(24)))

    def test_one_call(self):
        self.assertEqual(answers([0, 5, 5, 5]), [1, 0])

    def test_a_refusal_is_its_number_alone(self):
        self.assertEqual(answers([0, 5, 5, 5, 4, 0, 1, 7, 61, 9, 0]), [1, 0, 1, -2, 1, -22, 1, -2])

    def test_whole_numbers_never_true_or_false(self):
        told = answers(joined(LONG))
        self.assertIs(list, type(told))
        for number in told:
            self.assertIs(int, type(number))

    def test_the_largest_numbers_in_every_place(self):
        before = [start(10, 1000, 2), good(3, 4), good(1, 9), load(0, 50), port(3), days(1), persons(4, 1), back()]
        looks = whole_look() + [state(), again(), state()]
        without = ask(*before, *looks)[len(before):]
        for n in (2 ** 31 - 1, 2 ** 31, BIG - 1, BIG):
            for call, answer in (
                (spoils(n), [-2]), (stock(n), [-2]), (lot(n, 0), [-2]), (lot(0, n), [-6]), (lot(1, n), [-6]),
                (lot(n, n), [-2]), (look(n), [-2]), (who(n), [-22]), (sums(n), [-2]),
            ):
                told = ask(*before, call, *looks)[len(before):]
                self.assertEqual(told[0], answer, call)
                self.assertEqual(told[1:], without, call)
                self.assertEqual(ask_last(start(60), *[good()] * 6, call), answer, call)

    def test_a_thousand_calls(self):
        calls = [start(60, BIG // 5, 1), good(1, 1)] + [load(0, 1), give(0, 1)] * 499
        told = answers(joined(calls))
        self.assertEqual(told[:4], [1, 0, 1, 0])
        # Not assertEqual: the difference of lists as long as these takes it many minutes to write.
        self.assertTrue(told[4:] == [2, 1, 1, 1, 0] * 499)

    def test_a_thousand_back_and_again(self):
        calls = [start(60, 1000, 1), good(1, 1)] + [back(), again()] * 499
        self.assertTrue(answers(joined(calls)) == [1, 0, 1, 0] * 500)


class NothingChangedOrKept(unittest.TestCase):
    def test_the_list_is_the_same_behind_the_call(self):
        calls = joined(LONG)
        before = list(calls)
        answers(calls)
        self.assertEqual(calls, before)

    def test_the_list_is_not_changed_for_a_while_either(self):
        class Watched(list):
            def refuse(self, *given):
                raise AssertionError("the list that was handed in is changed")

            append = extend = insert = pop = remove = clear = sort = reverse = refuse
            __setitem__ = __delitem__ = __iadd__ = __imul__ = refuse

        self.assertEqual(answers(Watched(joined(LONG))), answers(joined(LONG)))

    def test_the_same_list_twice(self):
        calls = joined(LONG)
        self.assertEqual(answers(calls), answers(calls))

    def test_another_list_between(self):
        first = answers(joined(LONG))
        answers(joined([start(3, 9, 4), good(1, 1), load(0, 9), days(4)]))
        self.assertEqual(answers(joined(LONG)), first)

    def test_answers_given_back_are_not_kept(self):
        first = answers(joined(LONG))
        kept = list(first)
        first.clear()
        self.assertEqual(answers(joined(LONG)), kept)

    def test_prints_nothing(self):
        program = "from shipstores.voyages import answers\nanswers([0, 5, 5, 5, 1, 1, 1, 7, 3])\n"
        ran = subprocess.run([sys.executable, "-c", program], capture_output=True, check=True)
        self.assertEqual((ran.stdout, ran.stderr), (b"", b""))


if __name__ == "__main__":
    unittest.main()
