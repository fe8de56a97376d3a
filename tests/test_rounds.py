"""[5.2], [5.3]: rounds.py."""

import unittest

import naive
from samples import (
    BEST, BOTH, EVERY, GREATEST, LEAST, LENDERS, NONE, TAKERS, any_values, called, is_same, refused, spoilt,
)
from test_sides import sides, some_standing

from offerstands.errors import BadSet, OtherOffers
from offerstands.lists import by_lists
from offerstands.rounds import best_settled, rounds_of
from offerstands.sides import is_as_good, settled_sets

ALL = (0, 1, 2)


class RoundsTest(unittest.TestCase):
    def test_worked_examples(self):
        self.assertEqual(called(self, best_settled, LEAST, GREATEST, ALL), (0,))
        self.assertEqual(called(self, best_settled, GREATEST, LEAST, ALL), (2,))
        self.assertEqual(called(self, rounds_of, LEAST, GREATEST, ALL), (((0,), (0,)),))
        self.assertEqual(called(self, rounds_of, EVERY, LEAST, ALL), ((ALL, (0,)), ((0,), (0,))))
        self.assertEqual(best_settled(LENDERS, TAKERS, (0, 1, 2, 3)), (1, 3))
        self.assertEqual(best_settled(TAKERS, LENDERS, (0, 1, 2, 3)), (0, 2))

    def test_nothing_standing_or_nothing_taken(self):
        for near, far in ((LEAST, GREATEST), (EVERY, EVERY), (NONE, BEST), (BEST, NONE)):
            self.assertEqual(rounds_of(near, far, ()), (((), ()),))
            self.assertEqual(best_settled(near, far, ()), ())
        self.assertEqual(rounds_of(NONE, BOTH, (0, 1)), (((), ()),))
        self.assertEqual(rounds_of(BEST, NONE, (0, 1)), (((1,), ()), ((0,), ()), ((), ())))
        nothing = by_lists(3, ())
        self.assertEqual(rounds_of(LEAST, nothing, ALL), (((0,), ()), ((1,), ()), ((2,), ()), ((), ())))
        self.assertEqual(rounds_of(BOTH, BOTH, (0, 1)), (((0, 1), (0, 1)),))

    def test_as_the_document_says(self):
        longest = 0
        for near, far in sides(91):
            for standing in some_standing(near, far):
                told = naive.rounds_of(near, far, standing)
                self.assertEqual(rounds_of(near, far, standing), told)
                best = best_settled(near, far, standing)
                self.assertEqual(best, told[-1][1])
                self.assertEqual(best, naive.best_settled(near, far, standing))
                for other in settled_sets(near, far, standing):
                    self.assertIs(is_as_good(near, best, other) and is_as_good(far, other, best), True)
                longest = max(longest, len(told))
        self.assertGreater(longest, 2)

    def test_several_settled_sets(self):
        many = {}
        for near, far in sides(92):
            standing = naive.sets_of(near.offers)[-1]
            ones = [called(self, best_settled, near, far, standing), called(self, best_settled, far, near, standing)]
            sets = settled_sets(near, far, standing)
            self.assertTrue(set(ones) <= set(sets))
            self.assertIs(len(sets) == 1, ones[0] == ones[1])
            many[min(len(sets), 3)] = True
        self.assertEqual(sorted(many), [1, 2, 3])

    def test_errors(self):
        for function in (rounds_of, best_settled):
            for value in any_values() + list(spoilt(ALL)):
                if not any(is_same(value, some) for some in naive.sets_of(3)):
                    refused(self, BadSet, {"thing": value}, function, LEAST, EVERY, value)
                    refused(self, BadSet, {"thing": value}, function, near=LEAST, far=EVERY, standing=value)
            for near, far in ((BEST, LEAST), (LENDERS, BEST)):
                refused(self, OtherOffers, {}, function, near, far, ())
                refused(self, OtherOffers, {}, function, near, far, None)


if __name__ == "__main__":
    unittest.main()
