"""[2.2], [2.3]: streams.py."""

import random
import unittest

import naive
from samples import (
    BEST, NONE, NOT_APART, T, TWO, U, any_values, called, every_dated, freeze, is_same, random_choosers, random_dated,
    random_stream, random_trade, refused, spoilt, streams_in_order,
)
from test_trades import right_dated, right_stream

from offerstands.errors import BadDated, BadStream, OtherOffers
from offerstands.streams import bringing, moments, picks_along, stands
from offerstands.trades import Trade, is_dated

COMES = (("come", 0), ("day",), ("come", 1))


def cases(seed):
    chance = random.Random(seed)
    for offers in (1, 2, 3, 5):
        for chooser in random_choosers(offers, 6, seed):
            trade = random_trade(chance, offers)
            stream = random_stream(chance, trade, chance.choice((0, 1, 5, 12, 40)))
            yield chooser, trade, stream, random_dated(chance, trade)


class StandsTest(unittest.TestCase):
    def test_worked_example(self):
        self.assertEqual(called(self, stands, T, COMES), ((0, 1), (1, 2)))
        self.assertEqual(called(self, moments, T, COMES), ((), ((0, 2),), ((0, 1),), ((0, 1), (1, 2))))
        self.assertEqual(called(self, picks_along, BEST, T, COMES), ((), (0,), (0,), (1,)))

    def test_edges(self):
        self.assertEqual(stands(T, ()), ())
        self.assertEqual(stands(T, (), start=((1, 1),)), ((1, 1),))
        self.assertEqual(moments(T, (), start=((1, 1),)), (((1, 1),),))
        # It comes while it stands, and perishes.
        self.assertEqual(stands(T, (("come", 0),), start=((0, 1),)), ((0, 2),))
        self.assertEqual(stands(T, (("day",),), start=((0, 1), (1, 2))), ((1, 1),))
        self.assertEqual(stands(T, (("day",), ("day",)), start=((0, 1), (1, 2))), ())
        # It is taken back, also if it did not stand.
        self.assertEqual(stands(U, (("gone", 1),), start=((0, 1), (1, 2))), ((0, 1),))
        self.assertEqual(stands(U, (("gone", 1),), start=((0, 1),)), ((0, 1),))
        self.assertEqual(stands(U, (("gone", 1), ("come", 1))), ((1, 2),))

    def test_as_the_document_says(self):
        for chooser, trade, stream, start in cases(41):
            for begin in ((), start):
                told = tuple([naive.stands(trade, stream[:many], begin) for many in range(len(stream) + 1)])
                before = freeze((trade, stream, begin))
                self.assertEqual(moments(trade, stream, start=begin), told)
                self.assertEqual(moments(stream=stream, trade=trade, start=begin), told)
                self.assertEqual(stands(trade, stream, start=begin), told[-1])
                self.assertEqual(stands(start=begin, trade=trade, stream=stream), told[-1])
                picks = tuple([naive.picks_at(chooser, dated) for dated in told])
                self.assertEqual(picks_along(chooser, trade, stream, start=begin), picks)
                self.assertEqual(picks_along(trade=trade, chooser=chooser, start=begin, stream=stream), picks)
                self.assertEqual(freeze((trade, stream, begin)), before)
            self.assertEqual(called(self, stands, trade, stream), naive.stands(trade, stream))
            self.assertEqual(called(self, moments, trade, stream)[0], ())

    def test_choosers_that_cannot_be_asked_apart(self):
        self.assertEqual(picks_along(NOT_APART, T, COMES), ((), (0,), (0,), ()))
        self.assertEqual(picks_along(NONE, T, COMES), ((), (), (), ()))

    def test_start_is_passed_by_name_alone(self):
        for function, values in ((stands, (T, ())), (moments, (T, ())), (picks_along, (BEST, T, ()))):
            with self.assertRaises(TypeError):
                function(*values, ())

    def test_bad_start_ahead_of_bad_stream(self):
        worse = [value for value in any_values() + list(spoilt(((0, 1), (1, 2)))) if not right_dated(T, value)]
        for value in worse:
            for stream in ((), None, COMES, (("gone", 0),)):
                refused(self, BadDated, {"thing": value}, stands, T, stream, start=value)
                refused(self, BadDated, {"thing": value}, moments, T, stream, start=value)
                refused(self, BadDated, {"thing": value}, picks_along, BEST, T, stream, start=value)
        refused(self, BadDated, {"thing": ((0, 3),)}, stands, T, (), start=((0, 3),))

    def test_bad_stream(self):
        worse = [value for value in any_values() + list(spoilt(COMES)) if not right_stream(T, value)]
        for value in worse + [(("gone", 1),)]:
            refused(self, BadStream, {"thing": value}, stands, T, value)
            refused(self, BadStream, {"thing": value}, moments, T, value, start=((0, 1),))
            refused(self, BadStream, {"thing": value}, picks_along, BEST, T, value)
            refused(self, BadStream, {"thing": value}, picks_along, chooser=BEST, trade=T, stream=value)

    def test_other_offers_ahead_of_all_else(self):
        for trade, chooser in ((T, TWO), (Trade((1,) * 9, ()), BEST), (U, TWO)):
            refused(self, OtherOffers, {}, picks_along, chooser, trade, COMES)
            refused(self, OtherOffers, {}, picks_along, chooser, trade, None, start=None)
            refused(self, OtherOffers, {}, picks_along, chooser, trade, None)


class BringingTest(unittest.TestCase):
    def test_worked_example(self):
        self.assertEqual(called(self, bringing, T, ((0, 1), (1, 2))), COMES)
        self.assertEqual(called(self, bringing, T, ()), ())
        self.assertEqual(bringing(T, ((0, 1), (1, 1))), (("come", 0), ("come", 1), ("day",)))
        self.assertEqual(bringing(Trade((3,), ()), ((0, 1),)), (("come", 0), ("day",), ("day",)))

    def test_it_is_the_first_of_all_streams(self):
        for trade in (T, U, Trade((1, 3), (0,)), Trade((3, 1, 2), ()), Trade((2, 1, 1), (0,))):
            left = {dated: True for dated in every_dated(trade)}
            for stream in streams_in_order(trade, 5):
                dated = naive.stands(trade, stream)
                if left.pop(dated, False):
                    self.assertEqual(called(self, bringing, trade, dated), stream)
            self.assertLess(len(left), 4)

    def test_it_brings_each_dated_set(self):
        chance = random.Random(42)
        for _ in range(50):
            trade = random_trade(chance, 5)
            dated = random_dated(chance, trade)
            stream = bringing(trade, dated)
            self.assertEqual(naive.stands(trade, stream), dated)
            days = max([trade.lives[offer] - left for offer, left in dated], default=0)
            self.assertEqual(len(stream), days + len(dated))
            self.assertTrue(is_dated(trade, dated))

    def test_bad_dated_sets(self):
        for value in any_values() + list(spoilt(((0, 1), (1, 2)))):
            if not right_dated(T, value):
                refused(self, BadDated, {"thing": value}, bringing, T, value)
                refused(self, BadDated, {"thing": value}, bringing, trade=T, dated=value)

    def test_kinds(self):
        self.assertTrue(is_same(bringing(T, ((0, 1),)), (("come", 0), ("day",))))


if __name__ == "__main__":
    unittest.main()
