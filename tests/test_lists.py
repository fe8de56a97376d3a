"""[1.2], [1.3]: lists.py."""

import random
import unittest

import naive
from samples import (
    BEST, BOTH, NONE, NOT_APART, TWO, any_values, called, every_chooser, every_list, is_same, random_choosers,
    refused, spoilt,
)

from offerstands.choosers import Chooser
from offerstands.errors import BadList
from offerstands.lists import (
    apart_holds, are_lists, by_lists, first_against, firsts, is_apart, is_list, judge_apart,
)


def right_list(offers, thing):
    return any(is_same(thing, row) for row in every_list(offers))


def right_lists(offers, thing):
    return type(thing) is tuple and all(right_list(offers, row) for row in thing)


class ListsTest(unittest.TestCase):
    def test_is_list(self):
        for row in every_list(3):
            self.assertIs(called(self, is_list, 3, row), True)
        for offers in (1, 2, 3):
            for thing in any_values() + list(spoilt((1, 0, 2))):
                self.assertIs(called(self, is_list, offers, thing), right_list(offers, thing))
        self.assertIs(is_list(6, (5, 3, 4, 0, 1, 2)), True)
        self.assertIs(is_list(5, (5,)), False)

    def test_are_lists(self):
        self.assertIs(called(self, are_lists, 2, ()), True)
        self.assertIs(called(self, are_lists, 2, ((), (1, 0), (1, 0))), True)
        for thing in any_values() + list(spoilt(((0, 1), (1,)))):
            self.assertIs(called(self, are_lists, 2, thing), right_lists(2, thing))

    def test_firsts(self):
        self.assertEqual(called(self, firsts, (), (0, 1)), ())
        self.assertEqual(called(self, firsts, ((),), (0, 1)), ())
        self.assertEqual(called(self, firsts, ((2, 0), (1, 2)), (0, 1, 2)), (1, 2))
        self.assertEqual(firsts(((2, 0), (1, 2)), (0,)), (0,))
        self.assertEqual(firsts(((2, 0), (2, 1)), (0, 1, 2)), (2,))

    def test_by_lists(self):
        chance = random.Random(4)
        for offers in (1, 2, 3, 4):
            for _ in range(20):
                lists = tuple([chance.choice(every_list(offers)) for _ in range(chance.randint(0, 12))])
                self.assertTrue(naive.tells(lists, called(self, by_lists, offers, lists)))
        self.assertEqual(by_lists(2, ()), NONE)
        self.assertEqual(by_lists(6, ((5,),)).taken((0, 5)), (5,))

    def test_by_lists_refuses(self):
        for value in any_values():
            if not isinstance(value, tuple):
                refused(self, BadList, {"number": -1}, by_lists, 2, value)
            elif not right_lists(2, value):
                at = [right_list(2, row) for row in value].index(False)
                refused(self, BadList, {"number": at}, by_lists, 2, value)
                refused(self, BadList, {"number": at}, by_lists, offers=2, lists=value)
        refused(self, BadList, {"number": -1}, by_lists, 2, [(0, 1)])
        refused(self, BadList, {"number": 1}, by_lists, 2, ((0, 1), (1, 1), (2,)))
        refused(self, BadList, {"number": 0}, by_lists, 2, ((True, 0), (1, 1)))
        refused(self, BadList, {"number": 2}, by_lists, 2, ((), (0,), [0]))


class ApartTest(unittest.TestCase):
    def test_worked_example(self):
        self.assertEqual(judge_apart(NOT_APART), ("against", (0, 1), (0,)))
        self.assertEqual(called(self, first_against, NOT_APART), ((0, 1), (0,)))
        self.assertIs(called(self, is_apart, NOT_APART), False)
        self.assertIs(called(self, is_apart, TWO), True)
        self.assertIs(called(self, first_against, TWO), None)

    def test_all_choosers_of_up_to_three_offers(self):
        for chooser in every_chooser(1) + every_chooser(2) + every_chooser(3)[::3]:
            against = naive.first_against(chooser)
            self.assertEqual(first_against(chooser), against)
            self.assertIs(is_apart(chooser), against is None)
            self.assertIs(is_apart(chooser), naive.is_path_independent(chooser))
            paper = judge_apart(chooser)
            self.assertIs(apart_holds(chooser, paper), True)
            if against is None:
                self.assertTrue(paper[0] == "lists" and len(paper) == 2 and naive.tells(paper[1], chooser))
            else:
                self.assertEqual(paper, ("against", *against))

    def test_second_condition_alone(self):
        # Each part has what is taken of the whole; beside it something else is taken of a part.
        chooser = Chooser(2, ((), (0,), (1,), (0,)))
        self.assertIs(is_apart(chooser), True)
        chooser = Chooser(3, ((), (0,), (1,), (2,), (0, 1), (0, 2), (1, 2), (0,)))
        self.assertEqual(first_against(chooser), ((0, 1, 2), (0, 1)))
        self.assertEqual(naive.first_against(chooser), ((0, 1, 2), (0, 1)))

    def test_made_ones_of_up_to_five_offers(self):
        for offers in (4, 5):
            for chooser in random_choosers(offers, 25, offers):
                self.assertIs(is_apart(chooser), True)
                paper = called(self, judge_apart, chooser)
                self.assertTrue(naive.tells(paper[1], chooser))
                self.assertIs(called(self, apart_holds, chooser, paper), True)

    def test_papers_of_other_hands(self):
        lists = ((0, 1, 2), (2, 1))
        for right in (lists, lists[::-1], lists + lists, lists + ((0,),), lists + ((),),
                      ((0, 1), (2, 1, 0), (0, 2, 1))):
            self.assertEqual(naive.tells(right, TWO), True)
            self.assertIs(apart_holds(TWO, ("lists", right)), True)
        for wrong in ((), lists[:1], lists + ((1, 0, 2),), ((0, 1, 2), (1, 2)), ((0, 2, 1), (2, 0, 1))):
            self.assertEqual(naive.tells(wrong, TWO), False)
            self.assertIs(apart_holds(TWO, ("lists", wrong)), False)
        self.assertIs(apart_holds(NONE, ("lists", ())), True)
        self.assertIs(apart_holds(NONE, ("lists", ((), ()))), True)
        self.assertIs(apart_holds(TWO, ("lists", tuple([lists[k % 2] for k in range(500)]))), True)

    def test_papers_against_are_accepted_exactly_if_right(self):
        for chooser in [NOT_APART, BEST, BOTH] + every_chooser(3)[::97]:
            for some in naive.sets_of(chooser.offers):
                for part in naive.sets_of(chooser.offers):
                    right = set(part) <= set(some) and naive.speaks_against(chooser, some, part)
                    self.assertIs(apart_holds(chooser, ("against", some, part)), right)

    def test_any_value_as_paper(self):
        papers = [("lists", ((0, 1),)), ("lists", ()), ("against", (0, 1), (0,)), judge_apart(TWO),
            judge_apart(NOT_APART)]
        for chooser in (BEST, NONE, NOT_APART):
            for thing in any_values() + [worse for paper in papers for worse in spoilt(paper)]:
                self.assertIs(called(self, apart_holds, chooser, thing), self.right_paper(chooser, thing))

    def right_paper(self, chooser, thing):
        if type(thing) is not tuple or not thing or type(thing[0]) is not str:
            return False
        if thing[0] == "lists" and len(thing) == 2:
            return right_lists(chooser.offers, thing[1]) and naive.tells(thing[1], chooser)
        if thing[0] != "against" or len(thing) != 3:
            return False
        sets = naive.sets_of(chooser.offers)
        if not all(any(is_same(part, some) for some in sets) for part in thing[1:]):
            return False
        return set(thing[2]) <= set(thing[1]) and naive.speaks_against(chooser, *thing[1:])


if __name__ == "__main__":
    unittest.main()
