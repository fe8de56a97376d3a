"""[2.5]: guards.py."""

import random
import unittest

import naive
from samples import (
    BEST, BOTH, NONE, T, TWO, U, any_values, called, every_dated, random_stream, refused, spoilt,
)
from test_skylines import SMALL, apart, random_cases
from test_trades import right_dated, right_stream

from offerstands.errors import BadDated, BadOffer, OtherOffers
from offerstands.guards import first_showing, judge_offer, least_guards, offer_holds
from offerstands.lists import by_lists
from offerstands.trades import Trade

A = ((0, 1), (1, 2))
FUNCTIONS = (least_guards, first_showing, judge_offer)
# 0 is left out beside 1 and 2 together, and beside 3 alone; 4 is loose.
CROWD = by_lists(5, ((3, 1, 0), (3, 2, 0), (4,)))
WIDE = Trade((2, 3, 2, 3, 3), (4,))


def cases(seed):
    for chooser in apart(2):
        for trade in SMALL:
            for dated in every_dated(trade):
                yield from [(chooser, trade, dated, offer) for offer, _ in dated]
    for chooser, trade, dated, other in random_cases(seed):
        yield from [(chooser, trade, dated, offer) for offer, _ in dated]
        yield from [(chooser, trade, other, offer) for offer, _ in other]


def right_guard(chooser, trade, dated, offer, thing):
    if not any(thing == some and type(thing) is tuple for some in naive.sets_of(len(trade))):
        return False
    return not [x for x in thing if type(x) is not int] and naive.is_guard(chooser, trade, dated, offer, thing)


def right_paper(chooser, trade, dated, offer, thing):
    if type(thing) is not tuple or len(thing) != 2 or type(thing[0]) is not str:
        return False
    if thing[0] == "guarded":
        return right_guard(chooser, trade, dated, offer, thing[1])
    if thing[0] == "shown" and right_stream(trade, thing[1]):
        return naive.does_show(chooser, trade, dated, offer, thing[1])
    return False


class GuardsTest(unittest.TestCase):
    def test_worked_examples(self):
        self.assertEqual(called(self, least_guards, BEST, T, ((0, 1), (1, 1)), 0), ((1,),))
        self.assertEqual(called(self, least_guards, BEST, T, ((0, 2), (1, 1)), 0), ())
        self.assertEqual(called(self, first_showing, BEST, T, ((0, 2), (1, 1)), 0), (("day",),))
        self.assertEqual(called(self, first_showing, BEST, U, A, 0), (("gone", 1),))
        self.assertIs(called(self, first_showing, BEST, T, A, 0), None)
        self.assertEqual(first_showing(BEST, T, A, 1), ())
        self.assertEqual(called(self, judge_offer, BEST, T, A, 0), ("guarded", (1,)))
        self.assertEqual(judge_offer(BEST, U, A, 0), ("shown", (("gone", 1),)))

    def test_offers_that_are_never_taken_have_the_bare_guard(self):
        self.assertEqual(least_guards(NONE, T, A, 0), ((),))
        self.assertEqual(least_guards(NONE, T, ((0, 1),), 0), ((),))
        self.assertIs(offer_holds(NONE, T, A, 0, ("guarded", ())), True)
        self.assertIs(offer_holds(NONE, T, A, 0, ("guarded", (1,))), True)
        self.assertEqual(least_guards(BOTH, T, A, 0), ())

    def test_least_guards_are_ascending(self):
        dated = ((0, 1), (1, 1), (2, 2), (3, 3), (4, 3))
        self.assertEqual(least_guards(CROWD, WIDE, dated, 0), ((1, 2), (3,)))
        self.assertEqual(least_guards(CROWD, WIDE, ((0, 2), (1, 1), (2, 2), (3, 3)), 0), ((3,),))
        self.assertEqual(least_guards(CROWD, WIDE, dated[:3], 0), ((1, 2),))
        self.assertEqual(least_guards(CROWD, WIDE, dated, 4), ())
        for guard, right in (((3,), True), ((1, 3), True), ((1, 2), True), ((1, 2, 3), True), ((1,), False), ((),
            False),
                             ((3, 4), False), ((0, 3), False), ((2,), False), ((3, 1), False)):
            self.assertIs(offer_holds(CROWD, WIDE, dated, 0, ("guarded", guard)), right, guard)

    def test_as_the_document_says(self):
        for chooser, trade, dated, offer in cases(61):
            guards = [some for some in naive.sets_of(len(trade)) if naive.is_guard(chooser, trade, dated, offer, some)]
            least = [some for some in guards if not any(set(other) < set(some) for other in guards)]
            self.assertEqual(called(self, least_guards, chooser, trade, dated, offer), tuple(sorted(least)))
            paper = called(self, judge_offer, chooser, trade, dated, offer)
            stream = first_showing(chooser, trade, dated, offer)
            in_skyline = offer in dict(naive.skyline(chooser, trade, dated))
            self.assertEqual(in_skyline, not guards)
            self.assertEqual(stream is not None, in_skyline)
            self.assertEqual(paper, ("shown", stream) if in_skyline else ("guarded", paper[1]))
            self.assertTrue(right_paper(chooser, trade, dated, offer, paper))
            self.assertIs(called(self, offer_holds, chooser, trade, dated, offer, paper), True)
            for some in naive.sets_of(len(trade)):
                self.assertIs(offer_holds(chooser, trade, dated, offer, ("guarded", some)), some in guards)

    def test_first_showing_is_first(self):
        met = {}
        least = by_lists(3, ((0, 1, 2),))
        far = [
            (least, Trade((3, 3, 3), (1,)), ((0, 2), (1, 3), (2, 3)), 2),
            (least, Trade((2, 2, 3), (0, 1)), ((0, 2), (2, 3)), 2),
            (least, Trade((3, 3, 3), (0, 1)), ((0, 3), (1, 2), (2, 2)), 2),
            (least, Trade((1, 2, 3), ()), ((1, 2), (2, 3)), 2),
            (least, Trade((2, 2, 3), (0,)), ((0, 2), (1, 2), (2, 3)), 2),
        ]
        for chooser, trade, dated, offer in far + list(cases(62))[::3]:
            stream = first_showing(chooser, trade, dated, offer)
            if stream is not None and len(stream) <= (5 if len(trade) < 3 else 4 if len(trade) < 4 else 3):
                told = naive.first_stream(
                    trade, lambda row: naive.does_show(chooser, trade, dated, offer, row), len(stream))
                self.assertEqual(stream, told)
                met[len(stream)] = True
        self.assertTrue({0, 1, 2, 3} <= set(met), met)

    def test_the_offer_does_not_come_in_the_first_stream(self):
        # Were it let come, two days would be as short as three takings back, and ahead of them.
        chooser, trade = by_lists(4, ((1, 2, 3, 0),)), Trade((3, 2, 2, 2), (1, 2, 3))
        dated = ((0, 1), (1, 2), (2, 2), (3, 2))
        self.assertEqual(first_showing(chooser, trade, dated, 0), (("gone", 1), ("gone", 2), ("gone", 3)))


class PapersTest(unittest.TestCase):
    def test_streams_of_other_hands(self):
        chance = random.Random(63)
        for chooser, trade, dated, offer in list(cases(64))[::11]:
            for _ in range(12):
                stream = random_stream(chance, trade, chance.randint(0, 4))
                right = naive.does_show(chooser, trade, dated, offer, stream)
                self.assertIs(offer_holds(chooser, trade, dated, offer, ("shown", stream)), right)

    def test_long_streams(self):
        comes = (("come", 1), ("gone", 1)) * 200
        self.assertIs(offer_holds(BEST, U, A, 0, ("shown", comes)), True)
        self.assertIs(offer_holds(BEST, U, A, 0, ("shown", comes[:-1])), False)
        self.assertIs(offer_holds(BEST, U, A, 0, ("shown", comes[2:] + (("day",),))), False)

    def test_the_offer_itself_must_not_come(self):
        self.assertIs(offer_holds(BEST, U, A, 0, ("shown", (("come", 0), ("gone", 1)))), False)
        self.assertIs(offer_holds(BEST, T, ((0, 1),), 0, ("shown", ())), True)
        self.assertIs(offer_holds(BEST, T, ((0, 1),), 0, ("shown", (("day",),))), False)
        self.assertIs(offer_holds(BEST, T, ((0, 1),), 0, ("shown", (("day",), ("come", 0)))), False)

    def test_any_value_as_paper(self):
        for chooser, trade, dated, offer in ((BEST, T, A, 0), (BEST, U, A, 0), (NONE, T, A, 1), (BEST, T, A, 1)):
            paper = judge_offer(chooser, trade, dated, offer)
            for thing in any_values() + [paper] + list(spoilt(paper)):
                right = right_paper(chooser, trade, dated, offer, thing)
                self.assertIs(called(self, offer_holds, chooser, trade, dated, offer, thing), right, thing)


class ErrorsTest(unittest.TestCase):
    def test_bad_offers(self):
        for value in any_values() + [0, 1, True, False]:
            if type(value) is int and value == 1:
                continue
            for function in FUNCTIONS:
                refused(self, BadOffer, {"thing": value}, function, BEST, T, ((1, 2),), value)
                refused(self, BadOffer, {"thing": value}, function, chooser=BEST, trade=T, dated=((1, 2),), offer=value)
            refused(self, BadOffer, {"thing": value}, offer_holds, BEST, T, ((1, 2),), value, ("shown", ()))
        for function in FUNCTIONS:
            refused(self, BadOffer, {"thing": 0}, function, BEST, T, (), 0)
            refused(self, BadOffer, {"thing": True}, function, BEST, T, A, True)

    def test_bad_dated_sets_come_first(self):
        for value in any_values() + list(spoilt(A)):
            if not right_dated(T, value):
                for function in FUNCTIONS:
                    refused(self, BadDated, {"thing": value}, function, BEST, T, value, 0)
                    refused(self, BadDated, {"thing": value}, function, BEST, T, value, None)
                refused(self, BadDated, {"thing": value}, offer_holds, BEST, T, value, None, None)

    def test_other_offers_ahead_of_all_else(self):
        for chooser, trade in ((TWO, T), (BEST, Trade((1,), ()))):
            for function in FUNCTIONS:
                refused(self, OtherOffers, {}, function, chooser, trade, (), 0)
                refused(self, OtherOffers, {}, function, chooser, trade, None, None)
            refused(self, OtherOffers, {}, offer_holds, chooser, trade, None, None, None)


if __name__ == "__main__":
    unittest.main()
