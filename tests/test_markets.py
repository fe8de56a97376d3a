"""[10.1], [10.4]: markets.py."""

import random
import unittest
from itertools import permutations, product

import naive
from samples import NOT_APART, TAKERS, any_values, called, is_same, random_choosers, refused, spoilt
from test_offices import no_shares, right_shares

from offerstands.choosers import Chooser
from offerstands.errors import Against, BadLists, BadShares
from offerstands.lists import by_lists, first_against
from offerstands.markets import (
    Market, are_cut, are_told, gets, has_rather, houses_chooser, outcome, told_by,
)
from offerstands.shrinking import does_shrink

SHY = by_lists(4, ((3, 0, 2), (3, 1)))
M = Market(SHY, ((0, 1), (2, 3)), ((0, 1), (2, 3)))
FAIR = by_lists(4, ((0, 3), (2, 1)))
F = Market(FAIR, ((0, 1), (2, 3)), ((1, 0), (3, 2)))


def lists_of(share):
    """All lists of offers of a share."""
    return [row for many in range(len(share) + 1) for row in permutations(share, many)]


def random_row(chance, share):
    return tuple(chance.sample(share, chance.choice((len(share), len(share), chance.randint(0, len(share))))))


def markets(seed, many=40):
    """Markets with takers that shrink and such as do not, bare lists, lists of some offers."""
    chance = random.Random(seed)
    found = [M, F, Market(SHY, ((3, ), (0, 1, 2)), ((), (2, 0))), Market(TAKERS, ((0, 1, 2, 3),), ((3, 1),))]
    for _ in range(many):
        offers = chance.choice((1, 2, 3, 4, 4, 5))
        taker = random_choosers(offers, 1, chance.randrange(10 ** 6))[0]
        shares = chance.choice(naive.every_shares(offers))
        found.append(Market(taker, shares, tuple(random_row(chance, share) for share in shares)))
    for _ in range(many):
        # A first list ahead of some that do not go together: takers that shrink.
        offers = chance.choice((3, 4, 5))
        one = chance.randrange(offers)
        rows = [[x for x in chance.sample(range(offers), offers) if x != one] for _ in range(2)]
        taker = by_lists(offers, tuple((one, *row) for row in rows))
        shares = chance.choice([row for row in naive.every_shares(offers) if len(row) <= 3])
        found.append(Market(taker, shares, tuple(random_row(chance, share) for share in shares)))
    return found


def right_lists(market, thing):
    return type(thing) is tuple and len(thing) == len(market.shares) and all(
        any(is_same(row, right) for right in lists_of(share)) for share, row in zip(market.shares, thing))


def no_lists(market):
    values = any_values() + list(spoilt(market.lists)) + [
        market.lists[::-1], (*market.lists, ()), market.lists[1:], (market.shares[0][:1] * 2, *market.lists[1:]),
    ]
    return [value for value in values if not right_lists(market, value)]


def settled_for_houses(market, told):
    """The settled set of all offers that each house has as gladly as all others: tried one by one."""
    houses = naive.by_told(market, told)
    return naive.best_settled(houses, market.taker, tuple(range(market.taker.offers)))


class MarketTest(unittest.TestCase):
    def test_attributes_length_and_equality(self):
        for market in markets(631):
            made = Market(taker=market.taker, shares=market.shares, lists=market.lists)
            self.assertTrue(is_same((made.taker, made.shares, made.lists), (market.taker, market.shares, market.lists)))
            self.assertEqual(len(made), len(market.shares))
            self.assertIs(made == market, True)
            self.assertIs(made != market, False)
        for value in any_values() + [SHY, M.shares, M.lists]:
            if not isinstance(value, Market):
                self.assertIs(M == value, False)
                self.assertIs(value == M, False)
                self.assertIs(M != value, True)

    def test_markets_with_unlike_parts(self):
        others = [
            Market(FAIR, M.shares, M.lists), Market(SHY, M.shares, ((1, 0), (2, 3))), Market(SHY, M.shares, ((), ())),
            Market(SHY, ((2, 3), (0, 1)), ((2, 3), (0, 1))), Market(SHY, ((0, 1, 2, 3),), ((0, 1, 2, 3),)),
            # Unlike by their shares alone.
            Market(SHY, ((0, 2), (1, 3)), ((), ())),
        ]
        for at, one in enumerate([M, *others]):
            for further, other in enumerate([M, *others]):
                self.assertIs(one == other, at == further)

    def test_errors_of_making_in_their_order(self):
        against = first_against(NOT_APART)
        refused(self, Against, {"one": against[0], "part": against[1]}, Market, NOT_APART, None, None)
        refused(self, Against, {"one": against[0], "part": against[1]}, Market, taker=NOT_APART, shares=0, lists=0)
        for taker in (SHY, Chooser(1, ((), (0,))), by_lists(6, ((5, 0),))):
            for value in no_shares(taker.offers):
                if not right_shares(taker.offers, value):
                    refused(self, BadShares, {"thing": value}, Market, taker, value, None)
        for market in (M, markets(632)[2], Market(Chooser(1, ((), (0,))), ((0,),), ((),))):
            for value in no_lists(market):
                refused(self, BadLists, {"thing": value}, Market, market.taker, market.shares, value)

    def test_six_offers_can_be_made(self):
        taker = by_lists(6, ((5, 0, 1, 2, 3, 4),))
        self.assertEqual(len(Market(taker, ((0, 5), (1, 2, 3, 4)), ((5,), ()))), 2)


class ToldTest(unittest.TestCase):
    def test_are_told(self):
        for market in markets(633)[:12]:
            for told in product(*map(lists_of, market.shares)) if len(market.shares) < 3 else [market.lists]:
                self.assertIs(are_told(market, told), True)
            for value in no_lists(market):
                self.assertIs(are_told(market, value), False)
        self.assertIs(called(self, are_told, M, ((1,), (2, 3))), True)
        self.assertIs(called(self, are_told, M, ((2,), (1,))), False)

    def test_worked_examples(self):
        self.assertEqual(called(self, outcome, M, M.lists), (3,))
        self.assertIs(called(self, gets, M, M.lists, 0), None)
        self.assertEqual(called(self, gets, M, M.lists, 1), 3)
        self.assertEqual(called(self, outcome, M, ((1,), (2, 3))), (1, 2))
        self.assertEqual(called(self, outcome, F, F.lists), (1, 3))
        self.assertIs(does_shrink(SHY), True)

    def test_outcomes_against_all_settled_sets(self):
        chance = random.Random(634)
        for market in markets(635):
            tellings = [market.lists] + [tuple(random_row(chance, share) for share in market.shares) for _ in range(4)]
            for told in tellings:
                self.assertEqual(houses_chooser(market, told), naive.by_told(market, told))
                right = settled_for_houses(market, told)
                self.assertEqual(outcome(market, told), right)
                for house, share in enumerate(market.shares):
                    self.assertEqual(gets(market, told, house), next((x for x in right if x in share), None))
            called(self, houses_chooser, market, tellings[-1])

    def test_told_by(self):
        for market in markets(636):
            for house, share in enumerate(market.shares):
                for row in lists_of(share)[::5]:
                    right = tuple(row if at == house else other for at, other in enumerate(market.lists))
                    self.assertTrue(is_same(told_by(market, market.lists, house, row), right))
        self.assertEqual(called(self, told_by, M, ((), (3,)), 0, (1, 0)), ((1, 0), (3,)))

    def test_has_rather(self):
        for market in markets(637):
            for house, share in enumerate(market.shares):
                for one in (*share, None):
                    for other in (*share, None):
                        right = naive.has_rather(market, house, one, other)
                        self.assertIs(has_rather(market, house, one, other), right)
        market = Market(SHY, ((0, 1, 2, 3),), ((2, 0),))
        for one, other, right in ((2, 0, True), (0, 2, False), (0, None, True), (None, 1, True), (1, None, False),
                                  (1, 3, False), (3, 1, False), (2, 2, False), (None, None, False), (2, 1, True)):
            self.assertIs(called(self, has_rather, market, 0, one, other), right)

    def test_are_cut(self):
        for market in markets(638)[:20]:
            if len(market.shares) > 2:
                continue
            every = list(product(*map(lists_of, market.shares)))[::7]
            for told in every:
                for longer in every:
                    right = all(any(row == other[:many] for many in range(len(other) + 1))
                                for row, other in zip(told, longer))
                    self.assertIs(are_cut(market, told, longer), right)
        self.assertIs(called(self, are_cut, M, ((0,), ()), M.lists), True)
        self.assertIs(called(self, are_cut, M, ((1,), ()), M.lists), False)
        self.assertIs(called(self, are_cut, M, M.lists, ((0,), (2, 3))), False)

    def test_cut_lists_leave_room_to_the_others(self):
        chance = random.Random(639)
        for market in markets(640):
            for told in ([row[:chance.randint(0, len(row))] for row in market.lists] for _ in range(4)):
                both = naive.union(outcome(market, tuple(told)), outcome(market, market.lists))
                self.assertEqual(market.taker.taken(both), outcome(market, market.lists))
            for house, row in enumerate(market.lists):
                cut = told_by(market, market.lists, house, row[:chance.randint(0, len(row))])
                for other in range(len(market)):
                    if other != house:
                        ahead, behind = gets(market, market.lists, other), gets(market, cut, other)
                        self.assertFalse(has_rather(market, other, ahead, behind))


class ErrorsTest(unittest.TestCase):
    def test_bad_told_lists(self):
        for market in (M, markets(641)[2], Market(Chooser(1, ((), (0,))), ((0,),), ((),))):
            for value in no_lists(market):
                told = {"thing": value}
                refused(self, BadLists, told, houses_chooser, market, value)
                refused(self, BadLists, told, outcome, market, value)
                refused(self, BadLists, told, gets, market, value, 0)
                refused(self, BadLists, told, told_by, market, value, 0, None)
                with self.assertRaises(BadLists) as caught:
                    told_by(market=market, told=value, house=0, row=())
                self.assertTrue(is_same(caught.exception.thing, value) or caught.exception.thing is value)
                refused(self, BadLists, told, are_cut, market, value, None)
                refused(self, BadLists, told, are_cut, market, market.lists, value)

    def test_bad_rows(self):
        for house, share in enumerate(M.shares):
            for value in any_values() + [M.shares[1 - house], (*share, 4), (share[0], share[0]), list(share), (4,)]:
                if not any(is_same(value, row) for row in lists_of(share)):
                    refused(self, BadLists, {"thing": value}, told_by, M, M.lists, house, value)


if __name__ == "__main__":
    unittest.main()
