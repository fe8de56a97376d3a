"""[3.1], [3.2]: questions.py."""

import unittest

import naive
from samples import (
    BEST, BOTH, GREATEST, LEAST, LENDERS, NONE, NOT_APART, T, TAKERS, TWO, U, any_values, called, deeds_of_trade,
    every_chooser, is_same, random_choosers, refused, spoilt,
)

from offerstands.choosers import Chooser
from offerstands.errors import BadQuestion, BadSet
from offerstands.questions import answer_to, deeds_of, is_question
from offerstands.trades import Trade

PICKS = ("picks", BEST)


def questions():
    found = [PICKS, ("picks", NOT_APART), ("takes", BEST, 0), ("takes", NOT_APART, 1), ("takes", TWO, 2)]
    found += [("picks", chooser) for chooser in random_choosers(4, 2, 101) + every_chooser(3)[::1300]]
    found += [("takes", chooser, 3) for chooser in random_choosers(4, 2, 102)]
    pairs = [(BEST, BOTH), (BOTH, BEST), (NONE, BEST), (LEAST, GREATEST), (GREATEST, LEAST), (LENDERS, TAKERS)]
    pairs += [tuple(random_choosers(4, 2, seed)) for seed in (103, 104, 105)]
    return found + [(word, near, far) for near, far in pairs for word in ("settled", "best")]


def right_question(thing):
    if type(thing) is not tuple or not thing or type(thing[0]) is not str:
        return False
    word, parts = thing[0], thing[1:]
    if word == "picks":
        return len(parts) == 1 and isinstance(parts[0], Chooser)
    if len(parts) != 2 or not isinstance(parts[0], Chooser):
        return False
    if word == "takes":
        return type(parts[1]) is int and 0 <= parts[1] < parts[0].offers
    if word not in ("settled", "best") or not isinstance(parts[1], Chooser):
        return False
    return parts[0].offers == parts[1].offers and all(naive.first_against(part) is None for part in parts)


def bad_questions():
    values = any_values() + [worse for question in questions()[:8] for worse in spoilt(question)]
    values += [worse for worse in spoilt(("settled", BEST, BOTH))]
    values += [("settled", BEST, TWO), ("best", LENDERS, TWO)]
    values += [("takes", BEST, 2), ("takes", BEST, -1), ("takes", BEST, True)]
    values += [("settled", NOT_APART, BEST), ("best", BEST, NOT_APART), ("takes", T, 0), ("picks", U), list(PICKS)]
    return [value for value in values if not right_question(value)]


class QuestionsTest(unittest.TestCase):
    def test_is_question(self):
        for question in questions():
            self.assertIs(called(self, is_question, question), True)
        for value in bad_questions():
            self.assertIs(called(self, is_question, value), False, value)
        for value in any_values() + [worse for question in questions()[:8] for worse in spoilt(question)]:
            self.assertIs(called(self, is_question, value), right_question(value), value)

    def test_worked_examples(self):
        self.assertEqual(called(self, answer_to, PICKS, (0, 1)), (1,))
        self.assertIs(called(self, answer_to, ("takes", BEST, 0), (0, 1)), False)
        self.assertIs(answer_to(("takes", BEST, 0), (0,)), True)
        self.assertEqual(called(self, answer_to, ("settled", LENDERS, TAKERS), (0, 1, 2, 3)), ((0, 2), (1, 3)))
        self.assertEqual(answer_to(("best", LENDERS, TAKERS), (0, 1, 2, 3)), (1, 3))
        self.assertEqual(answer_to(("best", TAKERS, LENDERS), (0, 1, 2, 3)), (0, 2))

    def test_answers(self):
        for question in questions():
            for some in naive.sets_of(question[1].offers):
                told = naive.answer_to(question, some)
                self.assertTrue(is_same(called(self, answer_to, question, some), told), (question, some))

    def test_bad_questions_come_first(self):
        for value in bad_questions():
            refused(self, BadQuestion, {"thing": value}, answer_to, value, (0,))
            refused(self, BadQuestion, {"thing": value}, answer_to, question=value, offers=None)

    def test_bad_sets(self):
        for question in questions()[:2] + [("takes", BEST, 0), ("settled", BEST, BOTH), ("best", BEST, BOTH)]:
            for value in any_values() + list(spoilt((0, 1))):
                if not any(is_same(value, some) for some in naive.sets_of(2)):
                    refused(self, BadSet, {"thing": value}, answer_to, question, value)
                    refused(self, BadSet, {"thing": value}, answer_to, question=question, offers=value)

    def test_deeds_of(self):
        self.assertEqual(called(self, deeds_of, U), (("come", 0), ("come", 1), ("day",), ("gone", 1)))
        for trade in (T, Trade((1,), (0,)), Trade((3,) * 9, (0, 4, 8)), Trade((2, 1, 2), (0, 1, 2))):
            self.assertEqual(called(self, deeds_of, trade), tuple(sorted(deeds_of_trade(trade))))


if __name__ == "__main__":
    unittest.main()
