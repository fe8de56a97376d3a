"""[1.4], [1.5]: corners.py."""

import unittest
from itertools import combinations, permutations

import naive
from samples import (
    BEST, BOTH, NONE, NOT_APART, TWO, any_values, called, every_chooser, every_list, is_same, random_choosers,
    refused, spoilt,
)

from offerstands.corners import (
    closed, closed_sets, corners, fewest_hold, fewest_lists, judge_fewest, many_lists, same_picks,
)
from offerstands.errors import Against, BadSet
from offerstands.lists import is_apart
from offerstands.making import first_some


def samples():
    small = [chooser for offers in (1, 2) for chooser in every_chooser(offers) if is_apart(chooser)]
    three = [chooser for chooser in every_chooser(3) if is_apart(chooser)]
    return small + three[::3] + random_choosers(4, 15, 11) + random_choosers(5, 10, 12)


def right_fewest(chooser, thing):
    """Whether any value is a paper, told by the words of the document."""
    if type(thing) is not tuple or len(thing) != 3 or not is_same(thing[0], "fewest"):
        return False
    _, lists, sets = thing
    if type(lists) is not tuple or type(sets) is not tuple or len(lists) != len(sets):
        return False
    if not all(any(is_same(row, told) for told in every_list(chooser.offers)) for row in lists):
        return False
    told = {some for _, some in naive.corners(chooser)}
    if not all(any(is_same(some, corner) for corner in told) for some in sets):
        return False
    if list(sets) != sorted(sets, key=lambda some: (len(some), some)):
        return False
    return naive.are_apart(sets) and naive.tells(lists, chooser)


class ClosedTest(unittest.TestCase):
    def test_worked_examples(self):
        self.assertEqual(called(self, closed, TWO, (0, 2)), (0, 1, 2))
        told = ((), (0,), (1,), (2,), (0, 1), (1, 2), (0, 1, 2))
        self.assertEqual(called(self, closed_sets, TWO), told)
        self.assertEqual(called(self, closed_sets, NONE), ((0, 1),))
        self.assertEqual(called(self, same_picks, TWO, (0, 2)), ((0, 2), (0, 1, 2)))
        self.assertEqual(same_picks(NONE, (1,)), ((), (0,), (1,), (0, 1)))

    def test_as_the_document_says(self):
        for chooser in samples():
            picks = naive.picks_of(chooser)
            found = [naive.closed(chooser, some) for some in picks]
            self.assertEqual([closed(chooser, some) for some in picks], found)
            self.assertEqual(closed_sets(chooser), tuple([some for some in picks if some in found]))
            self.assertEqual(len(closed_sets(chooser)), len(set(picks.values())))
            for some in picks:
                same = tuple([other for other in picks if picks[other] == picks[some]])
                self.assertEqual(same_picks(chooser, some), same)

    def test_bad_sets(self):
        for value in any_values() + list(spoilt((0, 2))):
            if not any(is_same(value, some) for some in naive.sets_of(3)):
                for function in (closed, same_picks):
                    refused(self, BadSet, {"thing": value}, function, TWO, value)
                    refused(self, BadSet, {"thing": value}, function, chooser=TWO, some=value)

    def test_against_ahead_of_all_else(self):
        told = {"one": (0, 1), "part": (0,)}
        for function in (closed, same_picks):
            for some in [(), (0, 1), (9,), None, []]:
                refused(self, Against, told, function, NOT_APART, some)
        for function in (closed_sets, corners, many_lists, fewest_lists, judge_fewest):
            refused(self, Against, told, function, NOT_APART)
            refused(self, Against, told, function, chooser=NOT_APART)
        for chooser in every_chooser(3)[::41]:
            pair = naive.first_against(chooser)
            if pair is not None:
                refused(self, Against, {"one": pair[0], "part": pair[1]}, corners, chooser)


class CornersTest(unittest.TestCase):
    def test_worked_examples(self):
        self.assertEqual(called(self, corners, TWO), ((0, (1, 2)), (1, (0,)), (1, (2,)), (2, (0, 1))))
        self.assertEqual(called(self, many_lists, TWO), 2)
        self.assertEqual(called(self, corners, NONE), ())
        self.assertEqual(called(self, fewest_lists, NONE), ())
        self.assertEqual(called(self, judge_fewest, NONE), ("fewest", (), ()))
        of_two = first_some(3, (2, 0, 1), 2)
        self.assertEqual(corners(of_two), ((0, (1, 2)), (1, (0,)), (1, (2,)), (2, (0, 1))))
        self.assertEqual(many_lists(of_two), 2)
        self.assertIs(fewest_hold(TWO, ("fewest", ((0, 1, 2), (2, 1)), ((0, 1), (1, 2)))), True)

    def test_as_the_document_says(self):
        for chooser in samples():
            told = naive.corners(chooser)
            self.assertEqual(corners(chooser), told)
            self.assertEqual(many_lists(chooser), naive.many_lists(chooser))
            lists = fewest_lists(chooser)
            self.assertEqual(len(lists), many_lists(chooser))
            self.assertTrue(naive.tells(lists, chooser))
            paper = judge_fewest(chooser)
            self.assertTrue(right_fewest(chooser, paper))
            self.assertIs(fewest_hold(chooser, paper), True)

    def test_fewest_are_fewest_of_all_lists(self):
        for chooser in [one for one in every_chooser(3) if is_apart(one)][::4]:
            rows = [row for row in every_list(3) if row]
            many = 0
            while not any(naive.tells(lists, chooser) for lists in combinations(rows, many)):
                many += 1
            self.assertEqual(many_lists(chooser), many)

    def test_chains_are_linked_anew_where_that_is_needed(self):
        for chooser in random_choosers(5, 40, 13) + random_choosers(4, 40, 14):
            self.assertEqual(called(self, many_lists, chooser), naive.many_lists(chooser))
            self.assertIs(called(self, fewest_hold, chooser, called(self, judge_fewest, chooser)), True)


class FewestPapersTest(unittest.TestCase):
    def test_papers_of_other_hands(self):
        for lists in permutations(((0, 1, 2), (2, 1))):
            for sets in (((0, 1), (1, 2)), ((0,), (2,)), ((0,), (1, 2)), ((2,), (0, 1))):
                self.assertIs(fewest_hold(TWO, ("fewest", lists, sets)), True, sets)
        self.assertIs(fewest_hold(TWO, ("fewest", ((0, 1), (2, 1, 0)), ((0,), (2,)))), True)

    def test_wrong_papers(self):
        lists = ((0, 1, 2), (2, 1))
        for sets in (
                ((1, 2), (0, 1)), ((0,), (0, 1)), ((0,),), ((0,), (2,), (2,)), ((0,), (0,)), ((1,), (2,)), ((), (0,)),
                ((0, 1, 2),), [(0,), (2,)], ((False,), (2,)), ((2,), (0,)), ((0, 1), (2,)),
        ):
            self.assertIs(fewest_hold(TWO, ("fewest", lists, sets)), False, sets)
        for rows in (((0, 1, 2), (1, 2)), lists + lists, lists[:1], (), list(lists), ((0, 1, 2), [2, 1])):
            self.assertIs(fewest_hold(TWO, ("fewest", rows, ((0,), (2,)))), False, rows)
        more = ("fewest", lists + ((0,),), ((0,), (2,)))
        self.assertIs(fewest_hold(TWO, more), False)

    def test_never_of_a_chooser_that_cannot_be_asked_apart(self):
        for thing in any_values():
            self.assertIs(called(self, fewest_hold, NOT_APART, thing), False)
        self.assertIs(fewest_hold(NOT_APART, ("fewest", (), ())), False)

    def test_any_value_as_paper(self):
        for chooser in (NONE, BEST, BOTH, TWO):
            paper = judge_fewest(chooser)
            for thing in any_values() + [paper] + list(spoilt(paper)):
                self.assertIs(called(self, fewest_hold, chooser, thing), right_fewest(chooser, thing), thing)


if __name__ == "__main__":
    unittest.main()
