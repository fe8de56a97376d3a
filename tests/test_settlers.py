"""[7.2]: settlers.py."""

import random
import unittest

import naive
from samples import (
    BEST, BOTH, LENDERS, T, TAKERS, U, deeds_of_trade, is_same, random_choosers, random_stream, random_trade, refused,
)
from test_means import all_houses
from test_positions import SHORT, bad_deeds, broken_in

from offerstands.errors import BadDeed, NothingToUndo, OtherOffers
from offerstands.lists import by_lists
from offerstands.means import mean_broken
from offerstands.positions import is_course
from offerstands.settlers import Settler
from offerstands.trades import Trade


def seen(settler):
    return (settler.stood, settler.kept_now, settler.broken_so_far, settler.deeds_done)


class SettlerTest(unittest.TestCase):
    def test_at_the_beginning(self):
        for near, far, trade in all_houses(521)[::3]:
            self.assertTrue(is_same(seen(Settler(near, far, trade)), ((), (), 0, ())))
            self.assertTrue(is_same(seen(Settler(near=near, far=far, trade=trade)), ((), (), 0, ())))

    def test_worked_example(self):
        settler = Settler(BEST, BOTH, SHORT)
        self.assertEqual(settler.take(("come", 0)), (0,))
        self.assertEqual(settler.take(("come", 1)), (1,))
        self.assertEqual(seen(settler), (((0, 1), (1, 1)), (1,), 1, (("come", 0), ("come", 1))))
        self.assertEqual(settler.take(deed=("day",)), ())
        self.assertIs(settler.undo(), None)
        self.assertEqual(seen(settler), (((0, 1), (1, 1)), (1,), 1, (("come", 0), ("come", 1))))

    def test_each_beginning_keeps_the_bound(self):
        chance = random.Random(522)
        for near, far, trade in all_houses(523):
            top, bottom = mean_broken(near, far, trade)
            bound = bottom * near.offers * len(naive.positions(near, far, trade))
            for stream in self.streams(chance, near, far, trade):
                settler, course = Settler(near, far, trade), []
                for at, deed in enumerate(stream):
                    course.append(settler.take(deed))
                    self.assertEqual(settler.stood, naive.stands(trade, stream[:at + 1]))
                    self.assertEqual(settler.kept_now, course[-1])
                    self.assertEqual(settler.deeds_done, stream[:at + 1])
                    self.assertLessEqual(settler.broken_so_far * bottom, top * (at + 1) + bound)
                    self.assertTrue(top > 0 or settler.broken_so_far == 0)
                self.assertIs(is_course(near, far, trade, stream, tuple(course)), True)
                self.assertEqual(settler.broken_so_far, broken_in(trade, stream, course))

    def streams(self, chance, near, far, trade):
        """Random ones, and one by which a settler who does not look ahead has to break much."""
        yield random_stream(chance, trade, 30)
        stream, position = [], ((), ())
        settler = Settler(near, far, trade)
        for _ in range(60):
            rows = []
            for deed in deeds_of_trade(trade):
                settler.take(deed)
                rows.append((settler.broken_so_far, chance.random(), deed))
                settler.undo()
            stream.append(max(rows)[2])
            settler.take(stream[-1])
        yield tuple(stream)

    def test_the_mean_is_kept_in_the_long_run(self):
        for trade, round_of in ((SHORT, (("come", 0), ("come", 1), ("day",))), (U, (("come", 1), ("gone", 1)))):
            settler = Settler(BEST, BOTH, trade)
            top, bottom = mean_broken(BEST, BOTH, trade)
            settler.take(("come", 0))
            for _ in range(300):
                for deed in round_of:
                    settler.take(deed)
            done = len(settler.deeds_done)
            self.assertLessEqual(abs(settler.broken_so_far * bottom - top * done), bottom * 2 * 16)

    def test_nothing_is_broken_if_nothing_has_to_be(self):
        chance = random.Random(524)
        tried = 0
        for seed in range(60):
            near, far = random_choosers(3, 2, 5240 + seed)
            trade = random_trade(chance, 3, 2)
            if mean_broken(near, far, trade) == (0, 1):
                settler = Settler(near, far, trade)
                for deed in random_stream(chance, trade, 60):
                    settler.take(deed)
                self.assertEqual(settler.broken_so_far, 0)
                tried += 1
        self.assertGreater(tried, 5)

    def test_undo(self):
        chance = random.Random(525)
        for near, far, trade in all_houses(526)[::2]:
            stream = random_stream(chance, trade, 25)
            settler, pictures = Settler(near, far, trade), []
            for deed in stream:
                pictures.append(seen(settler))
                settler.take(deed)
            end = seen(settler)
            for picture in reversed(pictures):
                self.assertIs(settler.undo(), None)
                self.assertEqual(seen(settler), picture)
            refused(self, NothingToUndo, {}, settler.undo)
            self.assertEqual(seen(settler), ((), (), 0, ()))
            for deed in stream:
                settler.take(deed)
            self.assertEqual(seen(settler), end)

    def test_what_is_kept_hangs_on_the_deeds_alone(self):
        chance = random.Random(527)
        for near, far, trade in all_houses(528)[::2]:
            one, other = Settler(near, far, trade), Settler(near, far, trade)
            for deed in random_stream(chance, trade, 25):
                for more in random_stream(chance, trade, 3):
                    other.take(more)
                for _ in range(3):
                    other.undo()
                self.assertEqual(one.take(deed), other.take(deed))
                self.assertEqual(seen(one), seen(other))

    def test_settlers_are_apart_from_each_other(self):
        one, other = Settler(BEST, BOTH, T), Settler(BEST, BOTH, T)
        one.take(("come", 0))
        self.assertEqual(seen(other), ((), (), 0, ()))
        self.assertTrue(is_same(one.deeds_done, (("come", 0),)))

    def test_bad_deeds_change_nothing(self):
        for trade in (T, U):
            settler = Settler(BEST, BOTH, trade)
            for deeds in ((), (("come", 0), ("come", 1))):
                for deed in deeds:
                    settler.take(deed)
                before = seen(settler)
                for value in bad_deeds(trade):
                    refused(self, BadDeed, {"thing": value}, settler.take, value)
                    self.assertEqual(seen(settler), before)

    def test_nothing_to_undo(self):
        settler = Settler(LENDERS, TAKERS, Trade((1,) * 4, ()))
        refused(self, NothingToUndo, {}, settler.undo)
        settler.take(("day",))
        settler.undo()
        refused(self, NothingToUndo, {}, settler.undo)

    def test_other_offers(self):
        three, one = by_lists(3, ()), Trade((1,), ())
        for near, far, trade in ((BEST, three, T), (three, BEST, T), (BEST, BOTH, one), (three, three, T)):
            refused(self, OtherOffers, {}, Settler, near, far, trade)
            refused(self, OtherOffers, {}, Settler, near=near, far=far, trade=trade)


if __name__ == "__main__":
    unittest.main()
