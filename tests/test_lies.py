"""[10.2]: lies.py."""

import unittest

import naive
from samples import any_values, called, is_same, refused, spoilt
from test_markets import F, M, lists_of, markets

from offerstands.choosers import Chooser
from offerstands.errors import BadLists
from offerstands.lies import does_gain, first_gain, judge_lies, lies_hold, menu
from offerstands.lists import by_lists
from offerstands.markets import Market
from offerstands.shrinking import does_shrink


# Here the house 0 gains by telling 2 alone, and by telling 3 alone.
SEVERAL = Market(by_lists(5, ((4, 3, 1), (4, 1, 0), (4, 3, 2))), ((1, 2, 3), (0, 4)), ((1, 2, 3), (0, 4)))


def telling(market, house, row):
    return tuple(row if at == house else other for at, other in enumerate(market.lists))


def gains(market, house, row):
    got = naive.gets(market, telling(market, house, row), house)
    return got is not None and naive.has_rather(market, house, got, naive.gets(market, market.lists, house))


def rather(market, house):
    got = naive.gets(market, market.lists, house)
    return [x for x in market.lists[house] if naive.has_rather(market, house, x, got)]


def outcome_alone(market, house, offer):
    houses = naive.by_told(market, telling(market, house, (offer,)))
    return naive.best_settled(houses, market.taker, tuple(range(market.taker.offers)))


def right_paper(market, thing):
    if type(thing) is not tuple or not thing or type(thing[0]) is not str:
        return False
    if thing[0] == "gains":
        return any(is_same(thing, ("gains", house, offer)) and gains(market, house, (offer,))
                   for house, share in enumerate(market.shares) for offer in share)
    if thing[0] != "true":
        return False
    rows = tuple(tuple((offer, outcome_alone(market, house, offer)) for offer in rather(market, house))
                 for house in range(len(market.shares)))
    return is_same(thing, ("true", rows)) and not any(offer in there for row in rows for offer, there in row)


class LiesTest(unittest.TestCase):
    def test_worked_examples(self):
        self.assertEqual(called(self, judge_lies, M), ("gains", 0, 1))
        self.assertEqual(called(self, first_gain, M), (0, 1))
        self.assertIs(called(self, does_gain, M, 0, (1,)), True)
        self.assertIs(called(self, does_gain, M, 0, (0, 1)), False)
        self.assertIs(called(self, does_gain, M, 1, (2,)), False)
        self.assertEqual(called(self, menu, M, 0), (1,))
        self.assertEqual(called(self, menu, M, 1), (3,))
        self.assertEqual(called(self, judge_lies, F), ("true", ((), ())))
        self.assertIs(called(self, first_gain, F), None)
        self.assertIs(called(self, lies_hold, M, ("gains", 0, 1)), True)
        self.assertIs(called(self, lies_hold, F, ("true", ((), ()))), True)

    def test_all_lists_as_the_document_says(self):
        met = {}
        for market in markets(651):
            pairs = []
            for house, share in enumerate(market.shares):
                can_get = set()
                for row in lists_of(share):
                    told = gains(market, house, row)
                    self.assertIs(does_gain(market, house, row), told)
                    got = naive.gets(market, telling(market, house, row), house)
                    can_get.add(got)
                    # What it gains by a list it gains by this offer alone.
                    self.assertFalse(told and not gains(market, house, (got,)))
                self.assertEqual(menu(market, house), tuple(sorted(can_get - {None})))
                pairs += [(house, offer) for offer in market.lists[house] if gains(market, house, (offer,))]
            self.assertEqual(first_gain(market), pairs[0] if pairs else None)
            self.assertFalse(pairs and not does_shrink(market.taker))
            paper = judge_lies(market)
            self.assertTrue(right_paper(market, paper))
            self.assertEqual(paper[0], "gains" if pairs else "true")
            self.assertIs(lies_hold(market, paper), True)
            met[paper[0], does_shrink(market.taker)] = True
        self.assertEqual(len(met), 3)

    def test_each_gain_is_a_paper(self):
        """Not the first one alone, whoever made it."""
        unlike = 0
        for market in (SEVERAL, *markets(652, 30)):
            right = []
            for house in range(-1, len(market.shares) + 1):
                for offer in range(-1, market.taker.offers + 1):
                    told = right_paper(market, ("gains", house, offer))
                    self.assertIs(lies_hold(market, ("gains", house, offer)), told)
                    right += [(house, offer)] if told else []
            self.assertEqual(len(right) > 0, first_gain(market) is not None)
            unlike += len(right) > 1
        self.assertGreater(unlike, 0)

    def test_true_rows(self):
        """With houses that get nothing and would have several offers rather."""
        greedy = Market(by_lists(4, ((3,),)), ((0, 1, 2), (3,)), ((2, 0), (3,)))
        paper = ("true", (((2, (3,)), (0, (3,))), ()))
        self.assertEqual(called(self, judge_lies, greedy), paper)
        self.assertIs(called(self, lies_hold, greedy, paper), True)
        for wrong in (
                (((0, (3,)), (2, (3,))), ()), (((2, (3,)),), ()), (((2, (3,)), (0, (3,)), (1, (3,))), ()),
                (((2, (3,)), (0, ())), ()), (((2, (3,)), (0, (3,))),), (((2, (3,)), (0, (3,))), (), ()), ((), ()),
        ):
            self.assertIs(lies_hold(greedy, ("true", wrong)), False)
        self.assertIs(lies_hold(M, ("true", (((0, (3,)), (1, (1, 2))), ()))), False)

    def test_any_value_as_paper(self):
        bare = Market(Chooser(2, ((), (0,), (1,), (0, 1))), ((0,), (1,)), ((), ()))
        for market in (M, F, bare, Market(M.taker, M.shares, ((0,), (2,))), *markets(653, 6)):
            paper = judge_lies(market)
            for thing in [paper, *spoilt(paper), *any_values()]:
                self.assertIs(lies_hold(market, thing), right_paper(market, thing), thing)

    def test_five_offers(self):
        for market in [row for row in markets(654, 60) if row.taker.offers == 5]:
            self.assertIs(called(self, lies_hold, market, called(self, judge_lies, market)), True)

    def test_bad_rows(self):
        for value in any_values() + [(2,), (0, 0), [0], (0, 1, 4)]:
            if not any(is_same(value, row) for row in lists_of((0, 1))):
                refused(self, BadLists, {"thing": value}, does_gain, M, 0, value)
                refused(self, BadLists, {"thing": value}, does_gain, market=M, house=0, row=value)


if __name__ == "__main__":
    unittest.main()
