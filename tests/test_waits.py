"""[8.1], [8.4]: waits.py."""

import random
import unittest
from itertools import product

import naive
from samples import (
    BEST, BOTH, GREATEST, LEAST, T, U, any_values, called, deeds_of_trade, is_same, random_choosers, random_stream,
    random_trade, refused, spoilt,
)
from test_positions import COMES, bad_deeds, hard_streams, houses
from test_trades import right_stream

from offerstands.errors import BadDeed, BadPosition, BadStream, OtherOffers, TooMany
from offerstands.lists import by_lists
from offerstands.trades import Trade
from offerstands.waits import (
    burden_of, first_keeping, is_keeping, is_pledge, keeper_turns, least_burden, pledges_of, waiting_in,
)


def keepings(near, far, trade, stream):
    """All keepings of a stream, ascending."""
    rows = [((((), ()),))]
    for deed in stream:
        rows = [(*row, turn) for row in rows for turn in naive.keeper_turns(near, far, trade, row[-1], deed)]
    return sorted(tuple(kept for _, kept in row[1:]) for row in rows)


def burden_in(near, far, trade, stream, keeping):
    stood = [naive.stands(trade, stream[:at + 1]) for at in range(len(stream))]
    return max([len(naive.waiting(near, far, pledge)) for pledge in zip(stood, keeping)], default=0)


class PledgesTest(unittest.TestCase):
    def test_pledges_of(self):
        for near, far, trade in houses(531):
            told = tuple(naive.pledges(near, far, trade))
            self.assertEqual(called(self, pledges_of, near, far, trade), told)
            self.assertEqual(called(self, pledges_of, near, far, trade, most=len(told)), told)
            few = len(told) - 1
            refused(self, TooMany, {"most": few}, pledges_of, near, far, trade, most=few)
        every = naive.every_of(2)
        for named in ({}, {"most": 400}):
            refused(self, TooMany, {"most": 400}, pledges_of, every, every, Trade((10, 10), ()), **named)
        self.assertEqual(len(pledges_of(naive.every_of(1), naive.every_of(1), Trade((99,), ()))), 199)

    def test_is_pledge(self):
        for near, far, trade in houses(532)[:14:2]:
            right = naive.pledges(near, far, trade)
            for pledge in right:
                self.assertIs(is_pledge(near, far, trade, pledge), True)
            made = [worse for pledge in right[::19] + right[-1:] for worse in spoilt(pledge)]
            made += [(dated, kept) for dated, _ in right[::7] for kept in naive.sets_of(near.offers)]
            for thing in any_values() + made:
                told = any(is_same(thing, pledge) for pledge in right)
                self.assertIs(is_pledge(near, far, trade, thing), told, thing)
        self.assertIs(called(self, is_pledge, BEST, BOTH, T, (((0, 2), (1, 2)), (0,))), True)
        self.assertIs(called(self, is_pledge, BEST, BOTH, T, (((0, 2), (1, 2)), (0, 1))), False)

    def test_waiting_in(self):
        both = ((0, 2), (1, 2))
        for kept, told in (((0,), (1,)), ((1,), ()), ((), (0, 1))):
            self.assertEqual(called(self, waiting_in, BEST, BOTH, (both, kept)), told)
        for near, far, trade in houses(533):
            for pledge in naive.pledges(near, far, trade):
                told = naive.waiting(near, far, pledge)
                self.assertEqual(waiting_in(near, far, pledge), told)
                self.assertEqual(not told, naive.is_settled(near, far, naive.stand_in(pledge[0]), pledge[1]))

    def test_keeper_turns(self):
        told = ((((0, 2), (1, 2)), (0,)),)
        self.assertEqual(called(self, keeper_turns, BEST, BOTH, T, (((0, 2),), (0,)), ("come", 1)), told)
        lengths = {}
        for near, far, trade in houses(534):
            for pledge in naive.pledges(near, far, trade)[::3]:
                for deed in deeds_of_trade(trade):
                    told = tuple(naive.keeper_turns(near, far, trade, pledge, deed))
                    self.assertEqual(keeper_turns(near, far, trade, pledge, deed), told)
                    lengths[len(told)] = True
        self.assertTrue({1, 2, 4} <= set(lengths))


class KeepingsTest(unittest.TestCase):
    def test_worked_examples(self):
        self.assertEqual(called(self, least_burden, BEST, BOTH, T, COMES), 1)
        self.assertEqual(called(self, first_keeping, BEST, BOTH, T, COMES), ((), (0,)))
        self.assertEqual(called(self, burden_of, BEST, BOTH, T, COMES, ((), (1,))), 1)
        self.assertIs(called(self, is_keeping, BEST, BOTH, T, COMES, ((), (1,))), True)
        self.assertIs(called(self, is_keeping, BEST, BOTH, T, COMES, ((0,), (1,))), False)
        self.assertIs(is_keeping(BEST, BOTH, T, COMES, ((0,), ())), False)
        self.assertEqual(least_burden(BEST, BOTH, T, ()), 0)
        self.assertEqual(first_keeping(BEST, BOTH, T, ()), ())
        self.assertEqual(burden_of(BEST, BOTH, T, (), ()), 0)
        self.assertIs(is_keeping(BEST, BOTH, T, (), ()), True)

    def test_against_all_keepings(self):
        chance = random.Random(535)
        met = {}
        rows = [(*house, random_stream(chance, house[2], chance.randint(0, 8))) for house in houses(536, 40) * 2]
        rows += [(near, far, trade, stream[:many]) for near, far, trade, stream in hard_streams() for many in (4, 6)]
        for near, far, trade, stream in rows:
            every = keepings(near, far, trade, stream)
            if len(every) > 4000:
                continue
            burdens = [burden_in(near, far, trade, stream, keeping) for keeping in every]
            least = min(burdens)
            self.assertEqual(least_burden(near, far, trade, stream), least)
            self.assertEqual(first_keeping(near, far, trade, stream), every[burdens.index(least)])
            for at in range(0, len(every), 1 + len(every) // 9):
                self.assertIs(is_keeping(near, far, trade, stream, every[at]), True)
                self.assertEqual(burden_of(near, far, trade, stream, every[at]), burdens[at])
            met[least, max(burdens) > least, burdens.index(least) > 0] = True
        self.assertTrue({(0, True, True), (0, False, False), (1, True, True)} <= set(met), met)

    def test_is_keeping(self):
        chance = random.Random(537)
        for near, far, trade in houses(538):
            stream = random_stream(chance, trade, 3)
            right = keepings(near, far, trade, stream)
            made = [worse for keeping in right[:2] + right[-1:] for worse in spoilt(keeping)]
            made += list(product(naive.sets_of(near.offers)[:6], repeat=3))
            for thing in any_values() + right + made:
                told = any(is_same(thing, keeping) for keeping in right)
                self.assertIs(is_keeping(near, far, trade, stream, thing), told, thing)

    def test_what_goes_is_kept_no_more(self):
        stream = (("come", 1), ("gone", 1), ("come", 1), ("day",), ("day",))
        for keeping, told in (
                (((1,), (), (), (), ()), True), (((1,), (), (1,), (1,), ()), True), (((1,), (), (1,), (), ()), False),
                (((1,), (1,), (1,), (1,), ()), False), (((1,), (), (), (1,), ()), True),
        ):
            self.assertIs(is_keeping(BEST, BOTH, U, stream, keeping), told)

    def test_long_streams(self):
        chance = random.Random(539)
        for _ in range(4):
            near, far = random_choosers(4, 2, chance.randrange(999))
            trade = random_trade(chance, 4, 3)
            stream = random_stream(chance, trade, 40)
            keeping = called(self, first_keeping, near, far, trade, stream)
            self.assertIs(called(self, is_keeping, near, far, trade, stream, keeping), True)
            many = called(self, burden_of, near, far, trade, stream, keeping)
            self.assertEqual(many, burden_in(near, far, trade, stream, keeping))
            self.assertEqual(called(self, least_burden, near, far, trade, stream), many)


class ErrorsTest(unittest.TestCase):
    def test_other_offers_ahead_of_all_else(self):
        three, one = by_lists(3, ()), Trade((1,), ())
        for near, far, trade in ((BEST, three, T), (three, BEST, T), (BEST, BOTH, one), (three, three, T)):
            refused(self, OtherOffers, {}, is_pledge, near, far, trade, None)
            refused(self, OtherOffers, {}, pledges_of, near, far, trade, most=0)
            refused(self, OtherOffers, {}, keeper_turns, near, far, trade, None, None)
            for function in (is_keeping, burden_of):
                refused(self, OtherOffers, {}, function, near, far, trade, None, None)
            for function in (least_burden, first_keeping):
                refused(self, OtherOffers, {}, function, near, far, trade, None)
        refused(self, OtherOffers, {}, waiting_in, BEST, three, ((), ()))
        refused(self, OtherOffers, {}, waiting_in, near=three, far=BEST, pledge=((), ()))

    def test_bad_pledges_ahead_of_bad_deeds(self):
        for near, far, trade in ((BEST, BOTH, T), (LEAST, GREATEST, Trade((1, 1, 2), (0,)))):
            right = naive.pledges(near, far, trade)
            for value in any_values() + [worse for pledge in right for worse in spoilt(pledge)]:
                if not any(is_same(value, pledge) for pledge in right):
                    refused(self, BadPosition, {"thing": value}, keeper_turns, near, far, trade, value, None)
        refused(self, BadPosition, {"thing": 0}, keeper_turns, near=BEST, far=BOTH, trade=T, pledge=0, deed=("day",))

    def test_bad_deeds(self):
        for trade in (T, U):
            for value in bad_deeds(trade):
                refused(self, BadDeed, {"thing": value}, keeper_turns, BEST, BOTH, trade, ((), ()), value)

    def test_bad_streams(self):
        for value in any_values() + list(spoilt(COMES)) + [(("gone", 0),)]:
            if not right_stream(T, value):
                told = {"thing": value}
                for function in (is_keeping, burden_of):
                    refused(self, BadStream, told, function, BEST, BOTH, T, value, ())
                for function in (least_burden, first_keeping):
                    refused(self, BadStream, told, function, BEST, BOTH, T, value)
                    refused(self, BadStream, told, function, near=BEST, far=BOTH, trade=T, stream=value)


if __name__ == "__main__":
    unittest.main()
