"""[3.3], [3.4] told by: oneness.py."""

import random
import unittest

import naive
from samples import (
    BEST, BOTH, GREATEST, LEAST, LENDERS, NONE, NOT_APART, T, TAKERS, TWO, U, any_values, called, deeds_of_trade,
    every_chooser, every_dated, is_same, random_choosers, random_dated, random_stream, random_trade, refused, spoilt,
)
from test_questions import PICKS, bad_questions
from test_trades import right_dated, right_stream

from offerstands.choosers import Chooser
from offerstands.errors import BadDated, BadQuestion, OtherOffers
from offerstands.lists import by_lists
from offerstands.oneness import (
    are_one, first_unlike, first_untold, is_told_by, judge_one, one_holds,
)
from offerstands.skylines import are_ever_same
from offerstands.trades import Trade

A, B = ((0, 1), (1, 2)), ((1, 2),)
MANY = Trade((2, 2, 2, 2), (1, 3))


def small_questions():
    found = [PICKS, ("picks", NOT_APART), ("picks", NONE), ("takes", BEST, 0), ("takes", NOT_APART, 1)]
    pairs = ((BEST, BOTH), (BOTH, BEST), (NONE, BEST))
    found += [(word, near, far) for word in ("settled", "best") for near, far in pairs]
    return found + [("picks", chooser) for chooser in every_chooser(2)[::5]]


def great_questions():
    three, four = random_choosers(3, 4, 111), random_choosers(4, 4, 112)
    found = [("picks", TWO), ("takes", TWO, 1), ("settled", LEAST, GREATEST), ("best", GREATEST, LEAST)]
    found += [("settled", LENDERS, TAKERS), ("best", LENDERS, TAKERS), ("picks", LENDERS), ("takes", TAKERS, 3)]
    found += [("picks", chooser) for chooser in three + four] + [("picks", every_chooser(3)[2222])]
    found += [("settled", three[0], three[1]), ("best", three[2], three[3])]
    return found + [("settled", *four[:2]), ("best", *four[2:])]


def cases(seed):
    chance = random.Random(seed)
    for question in small_questions():
        for trade in (T, U, Trade((1, 3), (0, 1))):
            for _ in range(4):
                yield question, trade, random_dated(chance, trade), random_dated(chance, trade)
    for question in great_questions():
        for _ in range(3):
            trade = random_trade(chance, question[1].offers, 2)
            yield question, trade, random_dated(chance, trade), random_dated(chance, trade)


def answer_at(question, dated):
    return naive.answer_to(question, tuple([offer for offer, _ in dated]))


def numbers_of(question, trade):
    return naive.classes(trade, lambda dated: answer_at(question, dated))


def does_differ(question, trade, one, other, stream):
    ends = [naive.stands(trade, stream, start) for start in (one, other)]
    return answer_at(question, ends[0]) != answer_at(question, ends[1])


def right_pairs(question, trade, one, other, thing):
    if type(thing) is not tuple:
        return False
    for item in thing:
        if type(item) is not tuple or len(item) != 2 or not all(right_dated(trade, part) for part in item):
            return False
    if list(thing) != sorted(set(thing)) or (one, other) not in thing:
        return False
    for a, b in thing:
        if answer_at(question, a) != answer_at(question, b):
            return False
        for deed in deeds_of_trade(trade):
            if (naive.after(trade, a, deed), naive.after(trade, b, deed)) not in thing:
                return False
    return True


def right_paper(question, trade, one, other, thing):
    if type(thing) is not tuple or len(thing) != 2 or type(thing[0]) is not str:
        return False
    if thing[0] == "one":
        return right_pairs(question, trade, one, other, thing[1])
    if thing[0] == "unlike" and right_stream(trade, thing[1]):
        return does_differ(question, trade, one, other, thing[1])
    return False


class OneTest(unittest.TestCase):
    def test_worked_examples(self):
        self.assertIs(called(self, are_one, PICKS, T, A, B), True)
        self.assertIs(called(self, are_one, PICKS, U, A, B), False)
        self.assertEqual(called(self, first_unlike, PICKS, U, A, B), (("gone", 1),))
        self.assertIs(called(self, first_unlike, PICKS, T, A, B), None)
        paper = called(self, judge_one, PICKS, T, A, B)
        self.assertEqual(paper[0], "one")
        self.assertIn((A, B), paper[1])
        self.assertEqual(called(self, judge_one, PICKS, U, A, B), ("unlike", (("gone", 1),)))

    def test_as_the_document_says(self):
        seen = {}
        for question, trade, one, other in cases(113):
            numbers = numbers_of(question, trade)
            alike = [dated for dated in numbers if numbers[dated] == numbers[one]]
            for second in (other, one, alike[0], alike[-1], (), next(iter(numbers))):
                told = numbers[one] == numbers[second]
                self.assertIs(are_one(question, trade, one, second), told)
                paper = judge_one(question, trade, one, second)
                self.assertEqual(paper[0], "one" if told else "unlike")
                self.assertTrue(right_paper(question, trade, one, second, paper))
                self.assertIs(one_holds(question, trade, one, second, paper), True)
                self.assertEqual(first_unlike(question, trade, one, second), None if told else paper[1])
                seen[question[0], told, one == second] = True
        self.assertEqual(len([key for key in seen if not key[2]]), 8)

    def test_first_unlike_is_first(self):
        met = {}
        for question, trade, one, other in list(cases(114))[::2]:
            stream = called(self, first_unlike, question, trade, one, other)
            if stream is None or len(stream) < 4:
                longest = 2 if stream is None else len(stream)
                told = naive.first_stream(trade, lambda row: does_differ(question, trade, one, other, row), longest)
                self.assertEqual(stream, told)
                met[None if stream is None else len(stream)] = True
        self.assertTrue({None, 0, 1, 2} <= set(met), met)

    def test_of_picks_of_those_that_can_be_asked_apart(self):
        chance = random.Random(115)
        for chooser in random_choosers(4, 6, 116) + random_choosers(3, 6, 117):
            trade = random_trade(chance, chooser.offers)
            for _ in range(10):
                one, other = random_dated(chance, trade), random_dated(chance, trade)
                self.assertIs(are_one(("picks", chooser), trade, one, other), are_ever_same(chooser, trade, one, other))

    def test_calls_by_name(self):
        for question, trade, one, other in list(cases(118))[::17]:
            paper = called(self, judge_one, question, trade, one, other)
            self.assertIs(called(self, one_holds, question, trade, one, other, paper), True)
            self.assertIs(called(self, are_one, question, trade, one, other), paper[0] == "one")


class OnePapersTest(unittest.TestCase):
    def test_pairs_beyond_those_that_are_needed(self):
        needed = judge_one(PICKS, T, A, B)[1]
        numbers = numbers_of(PICKS, T)
        every = tuple(sorted([(a, b) for a in numbers for b in numbers if numbers[a] == numbers[b]]))
        self.assertIs(one_holds(PICKS, T, A, B, ("one", every)), True)
        self.assertGreater(len(every), len(needed))
        for at in range(len(every)):
            less = every[:at] + every[at + 1:]
            self.assertIs(one_holds(PICKS, T, A, B, ("one", less)), right_pairs(PICKS, T, A, B, less))
        for at in range(len(needed)):
            self.assertIs(one_holds(PICKS, T, A, B, ("one", needed[:at] + needed[at + 1:])), False)
            self.assertIs(one_holds(PICKS, T, A, B, ("one", needed[:at + 1] + needed[at:])), False)
        self.assertIs(one_holds(PICKS, T, A, B, ("one", needed[::-1])), False)
        self.assertIs(one_holds(PICKS, T, A, B, ("one", list(needed))), False)
        wrong = tuple(sorted(needed + (((), ((0, 1),)),)))
        self.assertIs(one_holds(PICKS, T, A, B, ("one", wrong)), False)
        self.assertIs(one_holds(PICKS, T, B, A, ("one", needed)), False)
        self.assertIs(one_holds(PICKS, U, A, B, ("one", every)), False)

    def test_all_that_deeds_lead_to_from_unlike_ones(self):
        """Pairs that lack nothing but that the answers are the same."""
        unlike = 0
        for question, trade, one, other in list(cases(123))[::7]:
            rows = [(one, other)]
            for pair in rows:
                for deed in deeds_of_trade(trade):
                    found = tuple(naive.after(trade, dated, deed) for dated in pair)
                    rows += [found] if found not in rows else []
            paper = ("one", tuple(sorted(rows)))
            told = judge_one(question, trade, one, other) == paper
            self.assertIs(one_holds(question, trade, one, other, paper), told)
            unlike += not told
        self.assertGreater(unlike, 5)

    def test_all_pairs_of_a_great_trade(self):
        question, trade = ("takes", by_lists(4, ((0, 1, 2, 3),)), 3), Trade((3, 3, 3, 3), ())
        numbers = numbers_of(question, trade)
        every = tuple(sorted([(a, b) for a in numbers for b in numbers if numbers[a] == numbers[b]]))
        self.assertGreater(len(every), 5000)
        self.assertIs(one_holds(question, trade, *every[77], ("one", every)), True)
        self.assertIs(one_holds(question, trade, *every[77], ("one", every[:-1])), False)

    def test_streams_of_other_hands(self):
        chance = random.Random(119)
        for question, trade, one, other in list(cases(120))[::9]:
            for _ in range(15):
                stream = random_stream(chance, trade, chance.randint(0, 5))
                right = does_differ(question, trade, one, other, stream)
                self.assertIs(one_holds(question, trade, one, other, ("unlike", stream)), right)
        idle = (("gone", 1),) * 400
        self.assertIs(one_holds(PICKS, U, A, B, ("unlike", idle)), True)
        self.assertIs(one_holds(PICKS, U, A, B, ("unlike", idle[1:] + (("come", 1),))), False)
        self.assertIs(one_holds(PICKS, T, A, B, ("unlike", (("gone", 1),))), False)

    def test_any_value_as_paper(self):
        one = Trade((1, 1), (0,))
        for question, trade, first, second in (
                (PICKS, one, ((0, 1),), ((0, 1),)), (PICKS, U, A, B),
                (("picks", NONE), Trade((1, 1), ()), (), ((0, 1),)),
                (("takes", BEST, 1), one, (), ((0, 1),)), (("settled", BEST, BOTH), one, ((1, 1),), ((0, 1), (1, 1))),
        ):
            paper = judge_one(question, trade, first, second)
            for thing in any_values() + [paper] + list(spoilt(paper)):
                told = right_paper(question, trade, first, second, thing)
                self.assertIs(one_holds(question, trade, first, second, thing), told, thing)


class ToldByTest(unittest.TestCase):
    def test_worked_examples(self):
        self.assertIs(called(self, is_told_by, ("takes", BEST, 0), PICKS, T), True)
        self.assertIs(called(self, is_told_by, PICKS, ("takes", BEST, 0), T), True)
        self.assertIs(called(self, first_untold, PICKS, ("takes", BEST, 0), T), None)

    def test_as_the_document_says(self):
        told = {}
        chance = random.Random(121)
        small, great = small_questions(), great_questions()
        pairs = [(one, other, trade) for one in small for other in small for trade in (T, U)]
        for one in great:
            for other in great:
                if one[1].offers == other[1].offers:
                    pairs.append((one, other, random_trade(chance, one[1].offers, 2)))
        numbers = {}
        for one, other, trade in pairs:
            for question in (one, other):
                if (id(question), str(trade)) not in numbers:
                    numbers[id(question), str(trade)] = numbers_of(question, trade)
            mine, others = numbers[id(one), str(trade)], numbers[id(other), str(trade)]
            rows = sorted(every_dated(trade))
            untold = [(a, b) for a in rows for b in rows if a < b and others[a] == others[b] and mine[a] != mine[b]]
            first = min(untold) if untold else None
            self.assertEqual(first_untold(one, other, trade), first)
            self.assertIs(is_told_by(one, other, trade), first is None)
            told[first is None] = told.get(first is None, 0) + 1
        self.assertGreater(min(told[True], told[False]), 50)

    def test_calls_by_name(self):
        called(self, first_untold, PICKS, ("picks", NONE), U)
        self.assertEqual(first_untold(PICKS, ("picks", NONE), U), ((), ((0, 1),)))
        self.assertIs(called(self, is_told_by, PICKS, ("picks", NONE), U), False)
        self.assertIs(called(self, is_told_by, ("picks", NONE), PICKS, U), True)

    def test_best_is_told_by_settled(self):
        for trade in (MANY, Trade((1, 2, 1, 2), ())):
            settled, best = ("settled", LENDERS, TAKERS), ("best", LENDERS, TAKERS)
            self.assertIs(is_told_by(best, settled, trade), True)

    def test_settled_is_not_told_by_what_both_sides_pick(self):
        # The near side would leave 0 out beside 1, the far one beside 2; neither 1 nor 2 is ever agreed.
        near, far = by_lists(3, ((1, 0), (1,))), by_lists(3, ((2, 0), (2,)))
        one, other = ((0, 1), (1, 1), (2, 1)), ((1, 1), (2, 1))
        trade = Trade((1, 1, 1), ())
        for chooser in (near, far):
            self.assertIs(are_one(("picks", chooser), trade, one, other), True)
        self.assertIs(are_one(("settled", near, far), trade, one, other), False)

    def test_answers_of_unlike_kinds_are_not_mixed_up(self):
        # All answers of "takes" are bools, those of "picks" sets: the classes are the same ones all the same.
        one = Chooser(1, ((), (0,)))
        trade = Trade((2,), (0,))
        self.assertIs(is_told_by(("takes", one, 0), ("picks", one), trade), True)
        self.assertIs(is_told_by(("picks", one), ("takes", one, 0), trade), True)


class ErrorsTest(unittest.TestCase):
    FUNCTIONS = (are_one, first_unlike, judge_one)

    def test_bad_questions_ahead_of_all_else(self):
        for value in bad_questions():
            for function in self.FUNCTIONS:
                refused(self, BadQuestion, {"thing": value}, function, value, T, A, B)
                refused(self, BadQuestion, {"thing": value}, function, question=value, trade=MANY, one=None, other=None)
            refused(self, BadQuestion, {"thing": value}, one_holds, value, T, None, None, None)
            for function in (is_told_by, first_untold):
                refused(self, BadQuestion, {"thing": value}, function, value, None, MANY)
                refused(self, BadQuestion, {"thing": value}, function, PICKS, value, MANY)
                refused(self, BadQuestion, {"thing": value}, function, question=PICKS, other=value, trade=T)

    def test_other_offers_behind_bad_questions(self):
        for question in (PICKS, ("takes", BEST, 0), ("settled", BEST, BOTH), ("best", BEST, BOTH)):
            for function in self.FUNCTIONS:
                refused(self, OtherOffers, {}, function, question, MANY, None, None)
                refused(self, OtherOffers, {}, function, question, MANY, (), ())
            refused(self, OtherOffers, {}, one_holds, question, MANY, None, None, None)
            for function in (is_told_by, first_untold):
                refused(self, OtherOffers, {}, function, question, PICKS, MANY)
                refused(self, OtherOffers, {}, function, question, ("picks", TWO), T)
                refused(self, OtherOffers, {}, function, ("picks", TWO), question, T)

    def test_bad_dated_sets(self):
        for value in any_values() + list(spoilt(A)):
            if not right_dated(T, value):
                for function in self.FUNCTIONS:
                    refused(self, BadDated, {"thing": value}, function, PICKS, T, value, None)
                    refused(self, BadDated, {"thing": value}, function, PICKS, T, value, A)
                    refused(self, BadDated, {"thing": value}, function, question=PICKS, trade=T, one=A, other=value)
                refused(self, BadDated, {"thing": value}, one_holds, PICKS, T, value, None, None)
                refused(self, BadDated, {"thing": value}, one_holds, PICKS, T, A, value, ("one", ()))

    def test_kinds(self):
        self.assertTrue(is_same(judge_one(PICKS, U, A, B), ("unlike", (("gone", 1),))))
        self.assertIs(one_holds(PICKS, U, A, B, ("unlike", (("gone", True),))), False)


if __name__ == "__main__":
    unittest.main()
