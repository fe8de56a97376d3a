"""[9.1], [9.2]: offices.py."""

import random
import unittest
from itertools import permutations, product

import naive
from samples import T, U, any_values, called, every_dated, is_same, random_trade, refused, spoilt

from offerstands.errors import BadDated, BadOffice, BadShares
from offerstands.offices import are_shares, is_office, marks_used, slip_of, view_of, views_of
from offerstands.slips import least_office
from offerstands.trades import Trade

HANDS = ((0,), (1,))
NOW = ((((), 0), (((0, 1),), 1), (((0, 2),), 1)), (((), 0), (((1, 1),), 1), (((1, 2),), 1)))
MIXED = Trade((1, 2, 1, 1), (2,))


def right_shares(offers, thing):
    if type(thing) is not tuple or not thing or not all(any(is_same(part, some) for some in naive.sets_of(offers)[1:])
                                                        for part in thing):
        return False
    return sorted(x for part in thing for x in part) == list(range(offers))


def right_office(trade, shares, thing):
    if type(thing) is not tuple or len(thing) != len(shares):
        return False
    for share, rows in zip(shares, thing):
        if type(rows) is not tuple or not all(type(row) is tuple and len(row) == 2 for row in rows):
            return False
        if not is_same(tuple(row[0] for row in rows), tuple(naive.views(trade, share))):
            return False
        if not all(type(row[1]) is int and row[1] >= 0 for row in rows):
            return False
    return True


def random_office(chance, trade, shares, many):
    """An office with marks below a number."""
    return tuple(tuple((view, chance.randrange(many)) for view in naive.views(trade, share)) for share in shares)


def no_shares(offers):
    whole = tuple(range(offers))
    values = [value for value in any_values() if not right_shares(offers, value)]
    return values + [
        whole, (), ((),), (whole, ()), ((), whole), (whole, whole), (whole[1:],), (whole, (offers,)), (list(whole),),
        [whole], ((offers,),), (whole + (offers,),), ((*whole[:-1], True),), (whole[:-1], (-1,)), (whole[::-1],) * 2,
    ]


class SharesTest(unittest.TestCase):
    def test_worked_examples(self):
        self.assertIs(called(self, are_shares, T, HANDS), True)
        self.assertEqual(called(self, views_of, T, (0,)), ((), ((0, 1),), ((0, 2),)))

    def test_all_tuples_of_sets(self):
        for offers in (1, 2, 3):
            trade = Trade((2,) * offers, ())
            right = 0
            for many in range(offers + 2):
                for thing in product(naive.sets_of(offers), repeat=many):
                    told = right_shares(offers, thing)
                    self.assertIs(are_shares(trade, thing), told, thing)
                    right += told
            self.assertEqual(right, len(naive.every_shares(offers)))

    def test_hands_in_any_order(self):
        for order in permutations(range(4)):
            self.assertIs(called(self, are_shares, MIXED, tuple((x,) for x in order)), True)
        self.assertIs(are_shares(MIXED, ((1, 3), (0, 2))), True)
        self.assertIs(are_shares(MIXED, ((3, 1), (0, 2))), False)

    def test_any_value(self):
        for offers in (1, 2, 3):
            trade = Trade((1,) * offers, (0,))
            for thing in no_shares(offers):
                self.assertIs(are_shares(trade, thing), right_shares(offers, thing), thing)
            for shares in naive.every_shares(offers):
                for thing in spoilt(shares):
                    self.assertIs(are_shares(trade, thing), right_shares(offers, thing), thing)

    def test_views(self):
        chance = random.Random(601)
        for offers in (1, 2, 3, 4):
            trade = random_trade(chance, offers)
            for share in naive.sets_of(offers):
                self.assertEqual(called(self, views_of, trade, share), tuple(naive.views(trade, share)))
                for dated in every_dated(trade):
                    self.assertEqual(view_of(share, dated), naive.view(share, dated))
            called(self, view_of, (0,), every_dated(trade)[-1])
        self.assertEqual(views_of(T, ()), ((),))
        self.assertEqual(view_of((), ((0, 1), (1, 2))), ())

    def test_a_dated_set_is_all_its_views(self):
        for shares in naive.every_shares(3):
            for dated in every_dated(Trade((2, 1, 2), (0,))):
                parts = [pair for share in shares for pair in view_of(share, dated)]
                self.assertEqual(tuple(sorted(parts)), dated)


class OfficeTest(unittest.TestCase):
    def offices(self):
        """Offices with few marks, great marks, all marks alike."""
        chance = random.Random(602)
        for trade in (T, U, Trade((1, 2, 1), (2,)), Trade((2,), ())):
            for shares in naive.every_shares(len(trade.lives)):
                for many in (1, 2, 3, 2000):
                    yield trade, shares, random_office(chance, trade, shares, many)

    def test_is_office_and_slips(self):
        self.assertIs(called(self, is_office, T, HANDS, NOW), True)
        self.assertEqual(called(self, slip_of, T, HANDS, NOW, ((0, 1), (1, 2))), (1, 1))
        for trade, shares, office in self.offices():
            self.assertIs(called(self, is_office, trade, shares, office), True)
            self.assertEqual(marks_used(trade, shares, office),
                             tuple(len({mark for _, mark in rows}) for rows in office))
            for dated in every_dated(trade):
                self.assertEqual(slip_of(trade, shares, office, dated), naive.slip(shares, office, dated))
        self.assertEqual(called(self, marks_used, T, HANDS, NOW), (2, 2))

    def test_spoilt_offices(self):
        for trade, shares in ((T, HANDS), (U, ((1,), (0,))), (U, ((0, 1),)), (Trade((1, 1, 1), ()), ((2,), (0, 1)))):
            office = least_office(naive.every_of(len(trade.lives)), trade, shares, "now")
            tried = 0
            for thing in [office, *spoilt(office), *any_values()]:
                told = right_office(trade, shares, thing)
                self.assertIs(is_office(trade, shares, thing), told, thing)
                tried += told
                if not told:
                    refused(self, BadOffice, {"thing": thing}, slip_of, trade, shares, thing, None)
                    refused(self, BadOffice, {"thing": thing}, marks_used, trade, shares, thing)
            self.assertGreater(tried, 3)

    def test_rows_one_by_one(self):
        one, other = NOW
        for wrong in (
                (one,), (one, other, other), (other, one), (one[1:], other), (one[::-1], other), (one, other[:2]),
                (one, (*other, (((1, 3),), 1))), (((), 0), other), ((((), True), *one[1:]), other),
                ((((), -1), *one[1:]), other), (((((0, 1),), 0), *one[1:]), other), ((one[0], one[0], *one[1:]), other),
                ((((), 0), (((0, True),), 1), one[2]), other), ((((), 0), (((False, 1),), 1), one[2]), other),
                (one, ([(), 0], *other[1:])), (list(one), other), [one, other],
        ):
            self.assertIs(is_office(T, HANDS, wrong), False, wrong)
        great = (((), 10 ** 39), *one[1:])
        self.assertIs(is_office(T, HANDS, (great, other)), True)
        self.assertEqual(slip_of(T, HANDS, (great, other), ()), (10 ** 39, 0))

    def test_of_other_shares(self):
        for shares in (((1,), (0,)), ((0, 1),)):
            self.assertIs(is_office(T, shares, NOW), False)
        self.assertIs(is_office(Trade((2, 1), ()), HANDS, NOW), False)


class ErrorsTest(unittest.TestCase):
    def test_bad_shares_ahead_of_all_else(self):
        for trade in (T, Trade((1,), ()), Trade((1, 2, 1), (0,))):
            for value in no_shares(len(trade.lives)):
                told = {"thing": value}
                if right_shares(len(trade.lives), value):
                    continue
                refused(self, BadShares, told, is_office, trade, value, None)
                refused(self, BadShares, told, slip_of, trade, value, None, None)
                refused(self, BadShares, told, marks_used, trade, value, None)
                refused(self, BadShares, told, slip_of, trade=trade, shares=value, office=(), dated=())

    def test_bad_office_ahead_of_bad_dated(self):
        refused(self, BadOffice, {"thing": 0}, slip_of, T, HANDS, 0, ((0, 3),))

    def test_bad_dated(self):
        for value in any_values() + [((0, 3),), ((1, 1), (0, 1)), ((2, 1),)]:
            if not any(is_same(value, dated) for dated in every_dated(T)):
                refused(self, BadDated, {"thing": value}, slip_of, T, HANDS, NOW, value)


if __name__ == "__main__":
    unittest.main()
