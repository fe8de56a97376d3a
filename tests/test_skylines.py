"""[2.4], [2.6]: skylines.py."""

import random
import unittest

import naive
from samples import (
    BEST, BOTH, NONE, T, TWO, U, any_values, called, every_chooser, every_dated, is_same, random_choosers, random_dated,
    random_stream, random_trade, refused, spoilt,
)
from test_trades import right_dated, right_stream

from offerstands.errors import BadDated, OtherOffers, TooMany
from offerstands.lists import by_lists, is_apart
from offerstands.skylines import (
    are_ever_same, ever_holds, first_parting, is_skyline, joined, judge_ever, shown_ever, skyline, skylines,
)
from offerstands.trades import Trade, put_together

A, B = ((0, 1), (1, 2)), ((1, 2),)
SMALL = (T, U, Trade((2, 2), (0, 1)), Trade((1, 3), (0,)), Trade((3, 1), ()))


def apart(offers):
    return [chooser for chooser in every_chooser(offers) if is_apart(chooser)]


def random_cases(seed, many=12, sizes=(1, 3, 4, 5)):
    chance = random.Random(seed)
    for offers in sizes:
        for chooser in random_choosers(offers, many, seed + offers):
            trade = random_trade(chance, offers)
            yield chooser, trade, random_dated(chance, trade), random_dated(chance, trade)


def small_cases():
    for chooser in apart(2):
        for trade in SMALL:
            for one in every_dated(trade):
                yield chooser, trade, one, every_dated(trade)[-1 - every_dated(trade).index(one) // 2]


def right_paper(chooser, trade, one, other, thing):
    if type(thing) is not tuple or len(thing) != 2 or type(thing[0]) is not str:
        return False
    if thing[0] == "same" and right_dated(trade, thing[1]):
        return naive.skyline(chooser, trade, one) == thing[1] == naive.skyline(chooser, trade, other)
    if thing[0] == "parted" and right_stream(trade, thing[1]):
        return naive.does_part(chooser, trade, one, other, thing[1])
    return False


class SkylineTest(unittest.TestCase):
    def test_worked_examples(self):
        self.assertEqual(called(self, skyline, BEST, T, A), B)
        self.assertEqual(called(self, skyline, BEST, U, A), A)
        self.assertEqual(skyline(BEST, T, ((0, 2), (1, 1))), ((0, 2), (1, 1)))
        self.assertEqual(skyline(BEST, T, ((0, 1), (1, 1))), ((1, 1),))
        self.assertEqual(called(self, skyline, NONE, T, A), ())
        self.assertEqual(called(self, skyline, BOTH, T, ()), ())

    def test_it_has_what_some_stream_shows(self):
        for chooser, trade, dated, _ in list(small_cases()) + list(random_cases(51, 4, (1, 3))):
            told = naive.skyline(chooser, trade, dated)
            self.assertEqual(skyline(chooser, trade, dated), told)
            offers = tuple([x for x, _ in dated if naive.shown_by_streams(chooser, trade, dated, x)])
            self.assertEqual(tuple([x for x, _ in told]), offers)
            self.assertEqual(called(self, shown_ever, chooser, trade, dated), offers)

    def test_as_the_document_says(self):
        for chooser, trade, one, other in random_cases(52):
            told = naive.skyline(chooser, trade, one)
            self.assertEqual(called(self, skyline, chooser, trade, one), told)
            self.assertIs(called(self, is_skyline, chooser, trade, one), told == one)
            self.assertIs(is_skyline(chooser, trade, told), True)
            self.assertEqual(called(self, shown_ever, chooser, trade, one), tuple([x for x, _ in told]))
            both = naive.skyline(chooser, trade, put_together(one, other))
            self.assertEqual(called(self, joined, chooser, trade, one, other), both)
            others = naive.skyline(chooser, trade, other)
            self.assertEqual(joined(chooser, trade, told, others), both)

    def test_it_goes_along_streams(self):
        chance = random.Random(53)
        for chooser, trade, one, _ in random_cases(54, 6):
            stream = random_stream(chance, trade, 8)
            ends = [naive.stands(trade, stream, start) for start in (one, skyline(chooser, trade, one))]
            self.assertEqual(skyline(chooser, trade, ends[0]), skyline(chooser, trade, ends[1]))


class SkylinesTest(unittest.TestCase):
    def test_worked_example(self):
        told = ((), ((0, 1),), ((0, 2),), ((1, 1),), ((1, 2),), ((0, 2), (1, 1)))
        self.assertEqual(called(self, skylines, BEST, T), told)
        self.assertEqual(skylines(NONE, T), ((),))

    def test_as_the_document_says(self):
        for chooser, trade, _, _ in list(random_cases(55, 5, (1, 2, 3, 4))):
            found = {naive.skyline(chooser, trade, dated) for dated in every_dated(trade)}
            told = tuple(sorted(found, key=lambda dated: (len(dated), dated)))
            self.assertEqual(called(self, skylines, chooser, trade), told)

    def test_most(self):
        self.assertEqual(len(skylines(BEST, T, most=6)), 6)
        for most in (5, 1, 0, -1):
            refused(self, TooMany, {"most": most}, skylines, BEST, T, most=most)
            refused(self, TooMany, {"most": most}, skylines, trade=T, chooser=BEST, most=most)
        self.assertEqual(len(skylines(BEST, T, most=10 ** 39)), 6)
        self.assertEqual(len(skylines(NONE, T, most=1)), 1)
        with self.assertRaises(TypeError):
            skylines(BEST, T, 6)

    def test_most_not_told(self):
        every = by_lists(5, ((0,), (1,), (2,), (3,), (4,)))
        greatest = Trade((3, 3, 3, 3, 3), (0, 1, 2, 3, 4))
        refused(self, TooMany, {"most": 400}, skylines, every, greatest)
        self.assertEqual(len(skylines(every, greatest, most=1024)), 1024)
        refused(self, TooMany, {"most": 1023}, skylines, every, greatest, most=1023)
        self.assertEqual(len(skylines(every, Trade((3, 3, 3, 2, 1), ()))), 384)
        refused(self, OtherOffers, {}, skylines, every, T, most=0)


class EverTest(unittest.TestCase):
    def test_worked_examples(self):
        self.assertIs(called(self, are_ever_same, BEST, T, A, B), True)
        self.assertIs(called(self, are_ever_same, BEST, U, A, B), False)
        self.assertEqual(called(self, first_parting, BEST, U, A, B), (("gone", 1),))
        self.assertIs(called(self, first_parting, BEST, T, A, B), None)
        self.assertEqual(called(self, judge_ever, BEST, T, A, B), ("same", B))
        self.assertEqual(called(self, judge_ever, BEST, U, A, B), ("parted", (("gone", 1),)))
        self.assertEqual(judge_ever(BEST, T, A, ()), ("parted", ()))
        self.assertEqual(judge_ever(NONE, T, A, ()), ("same", ()))

    def test_the_same_picks_behind_each_stream(self):
        for chooser in apart(2) + [TWO] + random_choosers(3, 3, 56):
            for trade in SMALL if len(chooser) == 2 else (Trade((2, 1, 2), (1,)), Trade((1, 2, 3), ())):
                numbers = naive.classes(trade, lambda dated: naive.picks_at(chooser, dated))
                for one in numbers:
                    for other in every_dated(trade)[::3]:
                        self.assertIs(are_ever_same(chooser, trade, one, other), numbers[one] == numbers[other])

    def test_first_parting_is_first(self):
        met = {}
        for chooser, trade, one, other in list(small_cases())[::5] + list(random_cases(57, 8, (1, 3))):
            stream = called(self, first_parting, chooser, trade, one, other)
            longest = 2 if stream is None else len(stream)
            told = naive.first_stream(trade, lambda row: naive.does_part(chooser, trade, one, other, row), longest)
            self.assertEqual(stream, told)
            met[len(stream) if stream is not None else None] = True
        self.assertTrue({None, 0, 1, 2} <= set(met), met)

    def test_papers(self):
        for chooser, trade, one, other in list(small_cases())[::7] + list(random_cases(58)):
            for pair in ((one, other), (one, one), (one, skyline(chooser, trade, one)), ((), other)):
                paper = called(self, judge_ever, chooser, trade, *pair)
                self.assertTrue(right_paper(chooser, trade, *pair, paper))
                self.assertIs(called(self, ever_holds, chooser, trade, *pair, paper), True)
                alike = naive.skyline(chooser, trade, pair[0]) == naive.skyline(chooser, trade, pair[1])
                self.assertEqual(paper[0], "same" if alike else "parted")
                self.assertEqual(first_parting(chooser, trade, *pair), None if alike else paper[1])

    def test_papers_of_other_hands(self):
        chance = random.Random(59)
        for _ in range(300):
            stream = random_stream(chance, U, chance.choice((1, 2, 3, 4)))
            right = naive.does_part(BEST, U, A, B, stream)
            self.assertIs(ever_holds(BEST, U, A, B, ("parted", stream)), right)
        idle = (("gone", 1),) * 399
        self.assertIs(ever_holds(BEST, U, A, B, ("parted", idle + (("gone", 1),))), True)
        self.assertIs(ever_holds(BEST, U, A, B, ("parted", idle + (("come", 1),))), False)
        self.assertIs(ever_holds(BEST, T, A, B, ("parted", (("gone", 1),))), False)

    def test_any_value_as_paper(self):
        for trade, one, other in ((T, A, B), (U, A, B), (T, (), ())):
            paper = judge_ever(BEST, trade, one, other)
            for thing in any_values() + [paper, ("same", A), ("same", B)] + list(spoilt(paper)):
                right = right_paper(BEST, trade, one, other, thing)
                self.assertIs(called(self, ever_holds, BEST, trade, one, other, thing), right, thing)


class ErrorsTest(unittest.TestCase):
    ONE = (skyline, is_skyline, shown_ever)
    PAIRS = (joined, are_ever_same, first_parting, judge_ever)

    def test_bad_dated_sets(self):
        for value in any_values() + list(spoilt(A)):
            if right_dated(T, value):
                continue
            for function in self.ONE:
                refused(self, BadDated, {"thing": value}, function, BEST, T, value)
                refused(self, BadDated, {"thing": value}, function, chooser=BEST, trade=T, dated=value)
            for function in self.PAIRS:
                refused(self, BadDated, {"thing": value}, function, BEST, T, value, A)
                refused(self, BadDated, {"thing": value}, function, BEST, T, value, None)
                refused(self, BadDated, {"thing": value}, function, chooser=BEST, trade=T, one=A, other=value)
            refused(self, BadDated, {"thing": value}, ever_holds, BEST, T, value, None, None)
            refused(self, BadDated, {"thing": value}, ever_holds, BEST, T, A, value, ("parted", ()))

    def test_other_offers_ahead_of_all_else(self):
        for chooser, trade in ((TWO, T), (BEST, Trade((1,), ())), (BEST, Trade((3,) * 9, (0,)))):
            for function in self.ONE:
                refused(self, OtherOffers, {}, function, chooser, trade, ())
                refused(self, OtherOffers, {}, function, chooser, trade, None)
            for function in self.PAIRS:
                refused(self, OtherOffers, {}, function, chooser, trade, None, ((9, 9),))
            refused(self, OtherOffers, {}, ever_holds, chooser, trade, None, None, None)
            refused(self, OtherOffers, {}, skylines, chooser, trade)

    def test_kinds(self):
        self.assertTrue(is_same(judge_ever(BEST, T, A, B), ("same", ((1, 2),))))
        self.assertTrue(is_same(skyline(BEST, T, A), ((1, 2),)))


if __name__ == "__main__":
    unittest.main()
