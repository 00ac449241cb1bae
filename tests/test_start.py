"""Point 1: the start, again and again, and what a change is."""

import unittest

from helper import BIG, UNITS, ask, ask_last, days, enough, give, good, lasts, least, load, need, persons, port
from helper import ration, start, whole_look
from shipstores.changes import sd_days, sd_give, sd_good, sd_load, sd_persons, sd_port, sd_ration, sd_start
from shipstores.questions import sd_enough, sd_lasts, sd_least, sd_need
from shipstores.ships import Ship


class Start(unittest.TestCase):
    def test_last(self):
        for last, answer in ((0, -22), (1, 0), (2, 0), (59, 0), (60, 0), (61, -22), (BIG, -22)):
            self.assertEqual(ask(start(last=last)), [[answer]], last)

    def test_room(self):
        for room, answer in ((0, -22), (1, 0), (UNITS, 0), (UNITS + 1, -22), (BIG, -22)):
            self.assertEqual(ask(start(room=room)), [[answer]], room)

    def test_persons(self):
        for count, answer in ((0, 0), (1, 0), (5000, 0), (5001, -22), (BIG, -22)):
            self.assertEqual(ask(start(persons=count)), [[answer]], count)

    def test_all_at_their_ends(self):
        self.assertEqual(ask(start(1, 1, 0), start(60, UNITS, 5000)), [[0], [0]])
        self.assertEqual(ask(start(BIG, BIG, BIG), start(0, 0, 0)), [[-22], [-22]])

    def test_refused_ones_ahead_of_the_first(self):
        told = ask(start(0), start(61), start(room=0), start(persons=5001), start(4, 7, 2), good(), load(0, 8), load(0, 7))
        self.assertEqual(told, [[-22], [-22], [-22], [-22], [0], [0], [-62], [7, 100]])

    def test_the_numbers_are_kept_as_told(self):
        self.assertEqual(ask_last(start(4, 7, 3), good(2, 1), need(0, 0, 5)), [30])
        self.assertEqual(ask_last(start(4, 7, 3), good(2, 1), need(0, 0, 6)), [-22])
        self.assertEqual(ask(start(1, 1, 0), good(), load(0, 1), load(0, 1), days(2), days(1)),
                         [[0], [0], [1, 100], [-62], [2, 0, 0], [-75]])

    def test_only_day_0_is_a_port_at_first(self):
        self.assertEqual(ask_last(start(3), good(), load(0, 1)), [1, 100])
        told = ask(start(3), good(), days(1), load(0, 1), days(1), load(0, 1), days(1), load(0, 1))
        self.assertEqual(told, [[0], [0], [1, 1, 0], [-16], [2, 1, 0], [-16], [3, 1, 0], [-16]])
        self.assertEqual(ask_last(start(3), good(), least(0)), [4, 4])

    def test_called_again_all_is_as_at_first(self):
        before = [start(10, 100, 3), good(5, 5), good(6, 6), port(4), persons(2, 9), load(0, 60), load(1, 20), days(4)]
        behind = [good(2, 3), load(0, 100), give(0, 1), days(1), lasts(0), least(0), need(0, 0, 11), lasts(1)]
        alone = ask(start(10, 100, 1), *behind)
        self.assertEqual(alone[-1], [-2])
        self.assertEqual(ask(*before, start(10, 100, 1), *behind)[len(before):], alone)

    def test_called_again_with_other_numbers(self):
        told = ask(start(10, 100, 3), days(11), start(2, 5, 4), good(), need(0, 0, 3), load(0, 6), load(0, 5), days(4))
        self.assertEqual(told[2:], [[0], [0], [12], [-62], [5, 100], [-75]])

    def test_refused_again_all_is_as_it_was(self):
        before = [start(10, 100, 3), good(5, 5), good(6, 6), port(6), persons(5, 9), load(0, 60), load(1, 20), days(2)]
        looks = whole_look() + [days(3)]
        refused = [start(0), start(61), start(room=0), start(room=UNITS + 1), start(persons=5001), start(BIG, BIG, BIG)]
        self.assertEqual(ask(*before, *refused, *looks)[len(before + refused):], ask(*before, *looks)[len(before):])

    def test_a_good_that_is_not_there_is_looked_at_first(self):
        for g in (1, 2, 5, 6, BIG):
            for call in (load(g, 0), load(g, 1), load(g, BIG), give(g, 0), give(g, 1), ration(g, 0), ration(g, 5),
                         lasts(g), least(g), enough(g, 0), enough(g, BIG), need(g, 5, 4), need(g, 0, BIG),
                         need(g, 0, 1)):
                self.assertEqual(ask_last(start(), good(), call), [-2], call)
                self.assertEqual(ask_last(start(), good(), days(1), call), [-2], call)

    def test_no_goods_at_all(self):
        for call in (load(0, 1), give(0, 1), ration(0, 1), lasts(0), least(0), enough(0, 1), need(0, 0, 1)):
            self.assertEqual(ask_last(start(), call), [-2], call)


def picture(voyage):
    """All that is kept of a voyage, as plain values."""
    goods = [
        (g.per, g.life, [(lot.until, lot.amount) for lot in g.lots], g.loaded, g.eaten, g.spoilt, g.given, g.lacked)
        for g in voyage.goods
    ]
    return (voyage.last, voyage.room, voyage.today, list(voyage.persons), list(voyage.ports), goods)


class Changes(unittest.TestCase):
    def setUp(self):
        self.ship = Ship()
        sd_start(self.ship, 10, 100, 1)
        sd_good(self.ship, 2, 3)

    def test_each_change_keeps_what_was(self):
        changes = (
            lambda: sd_good(self.ship, 1, 1), lambda: sd_persons(self.ship, 0, 2), lambda: sd_port(self.ship, 5, 1),
            lambda: sd_load(self.ship, 0, 9), lambda: sd_load(self.ship, 0, 3), lambda: sd_give(self.ship, 0, 2),
            lambda: sd_ration(self.ship, 0, 4), lambda: sd_days(self.ship, 2), lambda: sd_days(self.ship, 3),
        )
        pictures = [picture(was) for was in self.ship.past]
        for change in changes:
            before = picture(self.ship.voyage)
            self.assertGreaterEqual(change()[0], 0)
            self.assertNotEqual(picture(self.ship.voyage), before)
            pictures.append(before)
            self.assertEqual([picture(was) for was in self.ship.past], pictures)

    def test_so_many_as_before_is_a_change_too(self):
        sd_persons(self.ship, 0, 1)
        sd_ration(self.ship, 0, 2)
        self.assertEqual(len(self.ship.past), 3)

    def test_refused_ones_and_questions_are_none(self):
        sd_load(self.ship, 0, 50)
        before = picture(self.ship.voyage)
        for answer in (
            sd_start(self.ship, 0, 0, 0), sd_good(self.ship, 0, 1), sd_persons(self.ship, 11, 1),
            sd_port(self.ship, 1, 0), sd_load(self.ship, 0, 51), sd_give(self.ship, 0, 51),
            sd_ration(self.ship, 0, 0), sd_days(self.ship, 12),
        ):
            self.assertLess(answer[0], 0)
        voyage = self.ship.voyage
        for question in (sd_lasts(voyage, 0), sd_least(voyage, 0), sd_enough(voyage, 0, 7), sd_need(voyage, 0, 0, 3)):
            self.assertNotEqual(question, [-2])
        self.assertEqual(len(self.ship.past), 2)
        self.assertEqual(picture(self.ship.voyage), before)

    def test_the_last_30_are_kept(self):
        for n in range(40):
            sd_persons(self.ship, 0, n)
        self.assertEqual([was.persons[0] for was in self.ship.past], list(range(9, 39)))

    def test_another_change_leaves_none_to_be_done_again(self):
        self.ship.undone = [self.ship.voyage]
        sd_persons(self.ship, 0, 5001)
        self.assertEqual(len(self.ship.undone), 1)
        sd_persons(self.ship, 0, 5000)
        self.assertEqual(self.ship.undone, [])

    def test_a_start_leaves_no_changes(self):
        self.ship.undone = [self.ship.voyage]
        sd_start(self.ship, 10, 100, 5001)
        self.assertEqual((len(self.ship.past), len(self.ship.undone)), (1, 1))
        sd_start(self.ship, 10, 100, 5000)
        self.assertEqual((self.ship.past, self.ship.undone), ([], []))


if __name__ == "__main__":
    unittest.main()
