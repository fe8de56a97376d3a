"""[3.5]: summaries.py."""

import random
import unittest

import naive
from samples import (
    BEST, BOTH, LENDERS, NONE, NOT_APART, T, TWO, U, any_values, called, every_chooser, is_same, random_choosers,
    random_dated, random_trade, refused, spoilt,
)
from test_oneness import MANY, great_questions, numbers_of, small_questions
from test_questions import PICKS, bad_questions
from test_trades import right_dated

from offerstands.errors import BadDated, BadQuestion, OtherOffers
from offerstands.lists import by_lists
from offerstands.skylines import skyline
from offerstands.summaries import free_offers, is_summary, least_summaries
from offerstands.trades import Trade

A = ((0, 1), (1, 2))


def cases(seed):
    chance = random.Random(seed)
    for question in small_questions():
        for trade in (T, U, Trade((1, 3), (0, 1))):
            numbers = numbers_of(question, trade)
            for _ in range(3):
                yield question, trade, random_dated(chance, trade), numbers
    for question in great_questions():
        for _ in range(2):
            trade = random_trade(chance, question[1].offers, 2)
            numbers = numbers_of(question, trade)
            for dated in (random_dated(chance, trade), max(numbers, key=len)):
                yield question, trade, dated, numbers


def summaries_of(dated, numbers):
    return [part for part in naive.parts_of(dated) if numbers[part] == numbers[dated]]


def least_of(dated, numbers):
    rows = summaries_of(dated, numbers)
    return tuple(sorted(one for one in rows if not any(set(other) < set(one) for other in rows)))


class SummariesTest(unittest.TestCase):
    def test_worked_examples(self):
        self.assertEqual(called(self, least_summaries, PICKS, T, A), (((1, 2),),))
        self.assertEqual(called(self, free_offers, PICKS, T, A), (0,))
        self.assertEqual(called(self, free_offers, PICKS, U, A), ())
        self.assertIs(called(self, is_summary, PICKS, T, A, ((1, 2),)), True)
        self.assertIs(called(self, is_summary, PICKS, U, A, ((1, 2),)), False)

    def test_as_the_document_says(self):
        met = {}
        for question, trade, dated, numbers in cases(231):
            told = least_of(dated, numbers)
            self.assertEqual(least_summaries(question, trade, dated), told)
            for part in naive.parts_of(dated):
                self.assertIs(is_summary(question, trade, dated, part), numbers[part] == numbers[dated])
            free = tuple(x for x, _ in dated if numbers[tuple(p for p in dated if p[0] != x)] == numbers[dated])
            self.assertEqual(free_offers(question, trade, dated), free)
            met[question[0], len(free) > 0, len(told) > 1] = True
        self.assertGreater(len(met), 6)

    def test_several_least_ones_of_unlike_size(self):
        """Beside 3 what both sides can live with is told by 2 alone, and by 0 and 1 together."""
        near = by_lists(5, ((3, 2, 0, 1, 4),))
        far = by_lists(5, ((2, 4, 0, 1, 3), (1, 4, 3), (2, 4, 1)))
        trade, dated = Trade((1,) * 5, ()), ((0, 1), (1, 1), (2, 1), (3, 1))
        for question in (("settled", near, far), ("settled", far, near)):
            told = (((0, 1), (1, 1), (3, 1)), ((2, 1), (3, 1)))
            self.assertEqual(least_of(dated, numbers_of(question, trade)), told)
            self.assertEqual(called(self, least_summaries, question, trade, dated), told)
            self.assertEqual(called(self, free_offers, question, trade, dated), (0, 1, 2))
            self.assertIs(called(self, is_summary, question, trade, dated, ((0, 1), (3, 1))), False)

    def test_several_least_ones_of_any_choosers(self):
        sizes = {}
        for chooser in every_chooser(3)[::41]:
            for question in (("picks", chooser), ("takes", chooser, 1)):
                trade = Trade((1, 1, 1), ())
                numbers = numbers_of(question, trade)
                for dated in numbers:
                    told = least_of(dated, numbers)
                    self.assertEqual(least_summaries(question, trade, dated), told)
                    sizes[tuple(len(part) for part in told)] = True
        self.assertIn((1, 1), sizes)
        # 3 is taken neither beside 0 nor beside 1 and 2, but beside 1 and beside 2.
        question = ("takes", by_lists(4, ((0, 1, 3), (0, 2, 3))), 3)
        dated = ((0, 1), (1, 1), (2, 1))
        self.assertEqual(least_summaries(question, Trade((1,) * 4, ()), dated), (((0, 1),), ((1, 1), (2, 1))))
        self.assertEqual(free_offers(question, Trade((1,) * 4, ()), dated), (0, 1, 2))

    def test_of_picks_the_skyline_alone(self):
        chance = random.Random(232)
        for chooser in random_choosers(4, 5, 233) + random_choosers(3, 5, 234) + [NONE, BEST, LENDERS]:
            for _ in range(3):
                trade = random_trade(chance, chooser.offers, 3)
                dated = random_dated(chance, trade)
                line = skyline(chooser, trade, dated)
                self.assertEqual(called(self, least_summaries, ("picks", chooser), trade, dated), (line,))
                free = tuple(x for x, days in dated if (x, days) not in line)
                self.assertEqual(free_offers(("picks", chooser), trade, dated), free)

    def test_nothing_standing(self):
        for question in small_questions():
            self.assertEqual(called(self, least_summaries, question, T, ()), ((),))
            self.assertEqual(called(self, free_offers, question, T, ()), ())
            self.assertIs(called(self, is_summary, question, T, (), ()), True)

    def test_any_value_as_part(self):
        for question, trade, dated in (
                (PICKS, T, A), (("picks", NONE), T, A), (("takes", BEST, 1), U, ((0, 1), (1, 1))),
                (("picks", TWO), Trade((2, 3, 3), ()), ((0, 1), (1, 3), (2, 3))), (("settled", BEST, BOTH), T, A),
        ):
            numbers = numbers_of(question, trade)
            right = summaries_of(dated, numbers)
            things = any_values() + right + [worse for part in right + [dated] for worse in spoilt(part)]
            for thing in things:
                told = any(is_same(thing, part) for part in right)
                self.assertIs(called(self, is_summary, question, trade, dated, thing), told, thing)
        # The same offers with other days are no part, also where they are one with the dated set.
        self.assertIs(is_summary(("picks", NONE), T, A, ((0, 2),)), False)
        self.assertIs(is_summary(("picks", NONE), T, A, ((0, 1), (1, 1))), False)
        self.assertIs(is_summary(("picks", NONE), T, A, ((0, 1),)), True)
        self.assertIs(is_summary(("picks", NONE), T, ((0, 1),), ((0, True),)), False)


class ErrorsTest(unittest.TestCase):
    def test_bad_questions_ahead_of_all_else(self):
        for value in bad_questions():
            for function in (least_summaries, free_offers):
                refused(self, BadQuestion, {"thing": value}, function, value, MANY, None)
                refused(self, BadQuestion, {"thing": value}, function, question=value, trade=T, dated=A)
            refused(self, BadQuestion, {"thing": value}, is_summary, value, MANY, None, None)

    def test_other_offers_behind_bad_questions(self):
        for question in (PICKS, ("picks", NOT_APART), ("takes", BEST, 0), ("settled", BEST, BOTH)):
            for function in (least_summaries, free_offers):
                refused(self, OtherOffers, {}, function, question, MANY, None)
                refused(self, OtherOffers, {}, function, question, Trade((1,), ()), ())
            refused(self, OtherOffers, {}, is_summary, question, MANY, None, None)
        refused(self, OtherOffers, {}, free_offers, ("picks", by_lists(3, ())), T, ())

    def test_bad_dated_sets(self):
        for value in any_values() + list(spoilt(A)):
            if not right_dated(T, value):
                for function in (least_summaries, free_offers):
                    refused(self, BadDated, {"thing": value}, function, PICKS, T, value)
                    refused(self, BadDated, {"thing": value}, function, question=PICKS, trade=T, dated=value)
                refused(self, BadDated, {"thing": value}, is_summary, PICKS, T, value, ())


if __name__ == "__main__":
    unittest.main()
