"""[6.4]: changes.py."""

import unittest

import naive
from samples import BEST, BOTH, EVERY, LEAST, LENDERS, NONE, TAKERS, any_values, called, is_same, refused, spoilt
from test_pressing import FOUR
from test_sides import ALL, sides, some_standing

from offerstands.changes import is_touched, with_offer, without_offer
from offerstands.errors import BadOffer, BadSet, OtherOffers

FUNCTIONS = (with_offer, without_offer, is_touched)


def outcomes(near, far, standing, part):
    return tuple(
        some for some in naive.parts_behind(near, far, standing, part) if naive.is_settled(near, far, standing, some)
    )


def cases(seed):
    for near, far in sides(seed)[::4] + [(LENDERS, TAKERS), (LEAST, LEAST), (NONE, BEST), (BOTH, BEST)]:
        for standing in some_standing(near, far):
            for part in naive.settled_sets(near, far, standing):
                yield near, far, standing, part


class ChangesTest(unittest.TestCase):
    def test_worked_examples(self):
        self.assertEqual(called(self, with_offer, LENDERS, TAKERS, (0, 1, 2), (0, 2), 3), ((0, 2),))
        self.assertEqual(called(self, without_offer, LENDERS, TAKERS, FOUR, (0, 2), 0), ((1, 3),))
        self.assertIs(called(self, is_touched, LENDERS, TAKERS, (0, 1, 2), (0, 2), 3), False)
        self.assertIs(called(self, is_touched, LEAST, LEAST, (1, 2), (1,), 0), True)
        self.assertEqual(with_offer(LEAST, LEAST, (1, 2), (1,), 0), ((0,),))

    def test_as_the_document_says(self):
        met = {}
        for near, far, standing, part in cases(451):
            for offer in range(near.offers):
                if offer not in standing:
                    more = naive.union(standing, (offer,))
                    touched = not naive.is_settled(near, far, more, part)
                    self.assertIs(is_touched(near, far, standing, part, offer), touched)
                    told = outcomes(near, far, more, part)
                    self.assertEqual(with_offer(near, far, standing, part, offer), told)
                    self.assertTrue(touched or told == (part,))
                    met["with", touched, len(told) > 1] = True
                else:
                    less = tuple(x for x in standing if x != offer)
                    left = tuple(x for x in part if x != offer)
                    told = outcomes(near, far, less, left)
                    self.assertEqual(without_offer(near, far, standing, part, offer), told)
                    self.assertTrue(offer in part or part in told)
                    met["without", offer in part, len(told) > 1] = True
        self.assertTrue({key[:2] for key in met} == {("with", True), ("with", False), ("without", True),
                                                     ("without", False)}, met)
        self.assertTrue(any(key[2] for key in met))

    def test_calls_by_name(self):
        for near, far, standing, part in list(cases(452))[::41]:
            for offer in range(near.offers):
                if offer in standing:
                    called(self, without_offer, near, far, standing, part, offer)
                else:
                    called(self, with_offer, near, far, standing, part, offer)
                    called(self, is_touched, near, far, standing, part, offer)

    def test_nothing_standing(self):
        self.assertEqual(with_offer(EVERY, EVERY, (), (), 1), ((1,),))
        self.assertEqual(with_offer(NONE, BEST, (), (), 1), ((),))
        self.assertEqual(without_offer(EVERY, EVERY, (1,), (1,), 1), ((),))


class ErrorsTest(unittest.TestCase):
    def test_other_offers_ahead_of_all_else(self):
        for near, far in ((BEST, LEAST), (LENDERS, BEST)):
            for function in FUNCTIONS:
                refused(self, OtherOffers, {}, function, near, far, None, None, None)
                refused(self, OtherOffers, {}, function, near, far, (), (), 0)

    def test_bad_sets_ahead_of_bad_offers(self):
        for value in any_values() + list(spoilt(ALL)):
            if any(is_same(value, some) for some in naive.sets_of(3)):
                continue
            for function in FUNCTIONS:
                refused(self, BadSet, {"thing": value}, function, LEAST, EVERY, value, None, None)
                refused(self, BadSet, {"thing": value}, function, LEAST, EVERY, (0, 1), value, None)
                refused(self, BadSet, {"thing": value}, function, near=LEAST, far=EVERY, standing=(0,), part=value, offer=9)

    def test_parts_that_are_not_settled(self):
        for near, far, standing, part in (
                (LEAST, LEAST, (0, 1), (1,)), (LEAST, EVERY, (0, 1), ()), (LEAST, EVERY, (0, 1), (0, 1)),
                (LEAST, EVERY, (0, 1), (2,)), (EVERY, EVERY, (1, 2), (1,)),
        ):
            for function in FUNCTIONS:
                for offer in (0, 2, 3, None):
                    refused(self, BadSet, {"thing": part}, function, near, far, standing, part, offer)

    def test_bad_offers(self):
        for standing, part in (((0, 1), (0,)), ((1, 2), (1,)), ((), ())):
            for value in any_values() + [0, 1, 2, 3, -1]:
                is_offer = type(value) is int and 0 <= value <= 2
                if not is_offer or value in standing:
                    for function in (with_offer, is_touched):
                        refused(self, BadOffer, {"thing": value}, function, LEAST, EVERY, standing, part, value)
                if not is_offer or value not in standing:
                    refused(self, BadOffer, {"thing": value}, without_offer, LEAST, EVERY, standing, part, value)
        refused(self, BadOffer, {"thing": 1}, with_offer, near=LEAST, far=EVERY, standing=(0, 1), part=(0,), offer=1)


if __name__ == "__main__":
    unittest.main()
