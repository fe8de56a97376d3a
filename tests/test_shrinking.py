"""[5.5]: shrinking.py."""

import unittest

import naive
from samples import (
    BEST, BOTH, EVERY, LENDERS, NONE, TAKERS, TWO, called, every_chooser, random_choosers,
)
from test_sides import sides, some_standing

from offerstands.choosers import Chooser
from offerstands.lists import by_lists, is_apart
from offerstands.making import first_some
from offerstands.shrinking import does_shrink, first_shrinking

SHRINKS = Chooser(3, ((), (0,), (1,), (2,), (0,), (0,), (1, 2), (0,)))


def first_slowly(chooser):
    picks = naive.picks_of(chooser)
    rows = [
        (some, x) for some in picks for x in range(chooser.offers)
        if x not in some and len(picks[some]) > len(picks[naive.union(some, (x,))])
    ]
    return min(rows, key=lambda row: (len(row[0]), row[0], row[1]), default=None)


class ShrinkingTest(unittest.TestCase):
    def test_worked_example(self):
        self.assertEqual(called(self, first_shrinking, SHRINKS), ((1, 2), 0))
        self.assertIs(called(self, does_shrink, SHRINKS), True)

    def test_such_as_do_not(self):
        for chooser in (BEST, BOTH, NONE, EVERY, LENDERS, TAKERS, TWO, first_some(5, (3, 1, 0, 4), 2)):
            self.assertIs(called(self, does_shrink, chooser), False)
            self.assertIs(called(self, first_shrinking, chooser), None)

    def test_as_the_document_says(self):
        met = {}
        choosers = every_chooser(2) + every_chooser(3)[::37]
        choosers += [made for offers in (1, 3, 4, 5) for made in random_choosers(offers, 12, 410 + offers)]
        for chooser in choosers:
            told = first_slowly(chooser)
            self.assertEqual(called(self, first_shrinking, chooser), told)
            self.assertIs(called(self, does_shrink, chooser), told is not None)
            met[told is None, is_apart(chooser)] = True
        self.assertEqual(len(met), 4)

    def test_the_least_offer_of_the_first_set(self):
        # Beside 2 and 3 each of 0 and 1 stands alone.
        shy = by_lists(4, ((0, 1, 2), (0, 1, 3)))
        self.assertEqual(first_shrinking(shy), ((2, 3), 0))

    def test_settled_sets_have_equally_many_offers(self):
        tried = 0
        for near, far in sides(411):
            if not does_shrink(near) and not does_shrink(far):
                for standing in some_standing(near, far):
                    self.assertEqual(len({len(some) for some in naive.settled_sets(near, far, standing)}), 1)
                    tried += 1
        self.assertGreater(tried, 300)


if __name__ == "__main__":
    unittest.main()
