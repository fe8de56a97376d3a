"""[6.3]: rings.py."""

import random
import unittest
from itertools import product

import naive
from samples import BEST, EVERY, LEAST, LENDERS, NONE, TAKERS, any_values, called, is_same, refused, spoilt
from test_pressing import FOUR, agreed_parts, cases
from test_sides import ALL

from offerstands.errors import BadSet, OtherOffers
from offerstands.rings import does_go_round, ends_hold, judge_ends, longest_chain


def longest(near, far, standing, part):
    """How many offers can be pressed in at most, tried by depth; None if a part comes again."""
    met = {}

    def depth(some, above):
        if some in above:
            return None
        if some not in met:
            rows = [depth(found, above | {some}) for found in naive.presses(near, far, standing, some).values()]
            met[some] = None if None in rows else max(rows, default=-1) + 1
        return met[some]

    return depth(part, frozenset())


def right_ranks(near, far, standing, part, thing):
    if type(thing) is not tuple:
        return False
    agreed = agreed_parts(near, far, standing)
    for item in thing:
        if type(item) is not tuple or len(item) != 2 or not any(is_same(item[0], some) for some in agreed):
            return False
        if type(item[1]) is not int or item[1] < 0:
            return False
    ranks = dict(thing)
    if list(thing) != sorted(thing) or len(ranks) != len(thing) or part not in ranks:
        return False
    for some, number in thing:
        for found in naive.presses(near, far, standing, some).values():
            if found not in ranks or not ranks[found] < number:
                return False
    return True


def right_ring(near, far, standing, part, ahead, ring):
    if type(ahead) is not tuple or type(ring) is not tuple or not ring:
        return False
    begin = naive.pressed_in(near, far, standing, part, ahead)
    return begin is not None and naive.pressed_in(near, far, standing, begin, ring) == begin


def right_paper(near, far, standing, part, thing):
    if type(thing) is not tuple or not thing or type(thing[0]) is not str:
        return False
    if thing[0] == "ranks" and len(thing) == 2:
        return right_ranks(near, far, standing, part, thing[1])
    return thing[0] == "ring" and len(thing) == 3 and right_ring(near, far, standing, part, *thing[1:])


class RingsTest(unittest.TestCase):
    def test_worked_examples(self):
        self.assertEqual(called(self, longest_chain, LEAST, LEAST, ALL, (2,)), 2)
        self.assertEqual(longest_chain(LEAST, LEAST, ALL, ()), 3)
        paper = ("ranks", (((0,), 0), ((1,), 1), ((2,), 2)))
        self.assertEqual(called(self, judge_ends, LEAST, LEAST, ALL, (2,)), paper)
        self.assertIs(called(self, ends_hold, LEAST, LEAST, ALL, (2,), paper), True)
        ring = ("ring", (), (1, 2, 3, 0))
        self.assertIs(called(self, ends_hold, LENDERS, TAKERS, FOUR, (0,), ring), True)
        self.assertIs(called(self, does_go_round, LENDERS, TAKERS, FOUR, (0,)), True)
        self.assertIs(called(self, longest_chain, LENDERS, TAKERS, FOUR, (0,)), None)

    def test_as_the_document_says(self):
        met = {}
        for near, far, standing, part in cases(441):
            told = longest(near, far, standing, part)
            self.assertEqual(longest_chain(near, far, standing, part), told)
            self.assertIs(does_go_round(near, far, standing, part), told is None)
            paper = judge_ends(near, far, standing, part)
            self.assertEqual(paper[0], "ring" if told is None else "ranks")
            self.assertTrue(right_paper(near, far, standing, part, paper))
            self.assertIs(ends_hold(near, far, standing, part, paper), True)
            met[told] = True
            if told is None:
                met[None, len(paper[1]) > 0] = True
        self.assertTrue({None, 0, 1, 2, 3} <= set(met), met)
        self.assertIn((None, False), met)

    def test_ahead_of_the_ring(self):
        # From nothing on the first offer is pressed in, and from there presses go round.
        paper = called(self, judge_ends, LENDERS, TAKERS, FOUR, ())
        self.assertTrue(right_paper(LENDERS, TAKERS, FOUR, (), paper))
        self.assertGreater(len(paper[1]), 0)
        for ahead in ((0,), (1,), (0, 1), (0, 1, 2, 3, 0, 1)):
            begin = naive.pressed_in(LENDERS, TAKERS, FOUR, (), ahead)
            for ring in product(FOUR, repeat=4):
                told = naive.pressed_in(LENDERS, TAKERS, FOUR, begin, ring) == begin
                self.assertIs(ends_hold(LENDERS, TAKERS, FOUR, (), ("ring", ahead, ring)), told)

    def test_calls_by_name(self):
        for near, far, standing, part in list(cases(442))[::37]:
            paper = called(self, judge_ends, near, far, standing, part)
            self.assertIs(called(self, ends_hold, near, far, standing, part, paper), True)
            called(self, longest_chain, near, far, standing, part)
            called(self, does_go_round, near, far, standing, part)

    def test_nothing_standing_and_settled_parts(self):
        for near, far in ((LEAST, EVERY), (NONE, BEST), (LENDERS, TAKERS)):
            self.assertEqual(judge_ends(near, far, (), ()), ("ranks", (((), 0),)))
            self.assertEqual(longest_chain(near, far, (), ()), 0)
        self.assertEqual(judge_ends(LENDERS, TAKERS, FOUR, (1, 3)), ("ranks", (((1, 3), 0),)))

    def test_sides_exchanged(self):
        for near, far, standing, part in list(cases(443))[::5]:
            self.assertEqual(longest_chain(near, far, standing, part), longest_chain(far, near, standing, part))


class RingPapersTest(unittest.TestCase):
    def test_greater_ranks_and_more_parts(self):
        chance = random.Random(444)
        tried = {True: 0, False: 0}
        for near, far, standing, part in list(cases(445))[::3]:
            agreed = agreed_parts(near, far, standing)
            depths = {some: longest(near, far, standing, some) for some in agreed}
            if depths[part] is None:
                continue
            every = [some for some in agreed if depths[some] is not None]
            made = [[(some, 7 * depths[some] + 5) for some in every], [(some, depths[some]) for some in every]]
            made += [[row for row in made[0] if chance.random() < 0.8] for _ in range(3)]
            made += [[(some, max(0, number - chance.randint(0, 8))) for some, number in made[0]] for _ in range(3)]
            made += [made[0] + [(part, 7 * depths[part] + 6)]]
            for rows in made:
                ranks = tuple(sorted(rows))
                told = right_ranks(near, far, standing, part, ranks)
                self.assertIs(ends_hold(near, far, standing, part, ("ranks", ranks)), told)
                tried[told] += 1
            self.assertIs(ends_hold(near, far, standing, part, ("ranks", tuple(sorted(made[0])))), True)
        self.assertGreater(min(tried.values()), 50)

    def test_ranks_one_by_one(self):
        ranks = (((0,), 10 ** 39), ((1,), 10 ** 39 + 1), ((2,), 10 ** 39 + 2))
        near = (LEAST, LEAST, ALL, (2,))
        self.assertIs(ends_hold(*near, ("ranks", ranks)), True)
        self.assertIs(ends_hold(*near, ("ranks", ranks[::-1])), False)
        self.assertIs(ends_hold(*near, ("ranks", ((((0,), 0), ((1,), 0), ((2,), 1))))), False)
        self.assertIs(ends_hold(*near, ("ranks", (((0,), 0), ((0,), 1), ((1,), 2), ((2,), 3)))), False)
        self.assertIs(ends_hold(*near, ("ranks", (((0,), 0), ((1,), 1)))), False)
        self.assertIs(ends_hold(*near, ("ranks", (((0,), 0), ((2,), 1)))), False)
        self.assertIs(ends_hold(*near, ("ranks", (((0,), -1), ((1,), 0), ((2,), 1)))), False)
        # What does not stand, and what is not agreed, has no rank.
        self.assertIs(ends_hold(LEAST, LEAST, (0, 2), (2,), ("ranks", (((0,), 0), ((1,), 1), ((2,), 2)))), False)
        self.assertIs(ends_hold(LEAST, LEAST, (0, 2), (2,), ("ranks", (((0,), 0), ((2,), 2)))), True)
        self.assertIs(ends_hold(*near, ("ranks", (((0,), 0), ((0, 1), 0), ((1,), 1), ((2,), 2)))), False)

    def test_rings_of_other_hands(self):
        for times in (1, 2, 40):
            paper = ("ring", (), (1, 2, 3, 0) * times)
            self.assertIs(ends_hold(LENDERS, TAKERS, FOUR, (0,), paper), True)
        self.assertIs(ends_hold(LENDERS, TAKERS, FOUR, (0,), ("ring", (1, 2, 3, 0, 1, 2), (3, 0, 1, 2))), True)
        self.assertIs(ends_hold(LENDERS, TAKERS, FOUR, (0,), ("ring", (1, 2, 3), (0, 1, 2))), False)
        self.assertIs(ends_hold(LENDERS, TAKERS, FOUR, (0,), ("ring", (1, 2), ())), False)
        self.assertIs(ends_hold(LENDERS, TAKERS, FOUR, (0,), ("ring", (2, 2), (1, 2, 3, 0))), False)
        for value in any_values():
            told = right_ring(LENDERS, TAKERS, FOUR, (0,), (), (value, 2, 3, 0))
            self.assertIs(ends_hold(LENDERS, TAKERS, FOUR, (0,), ("ring", (), (value, 2, 3, 0))), told, value)
            told = right_ring(LENDERS, TAKERS, FOUR, (0,), (value,), (2, 3, 0, 1))
            self.assertIs(ends_hold(LENDERS, TAKERS, FOUR, (0,), ("ring", (value,), (2, 3, 0, 1))), told, value)

    def test_any_value_as_paper(self):
        for near, far, standing, part in (
                (LEAST, LEAST, ALL, (2,)), (LENDERS, TAKERS, FOUR, (0,)), (BEST, BEST, (0, 1), (1,)),
                (LENDERS, TAKERS, FOUR, ()), (EVERY, EVERY, (0, 1), ()),
        ):
            paper = judge_ends(near, far, standing, part)
            for thing in any_values() + [paper] + list(spoilt(paper)):
                told = right_paper(near, far, standing, part, thing)
                self.assertIs(ends_hold(near, far, standing, part, thing), told, thing)


class ErrorsTest(unittest.TestCase):
    FUNCTIONS = (does_go_round, longest_chain, judge_ends)

    def test_other_offers_ahead_of_all_else(self):
        for near, far in ((BEST, LEAST), (LENDERS, BEST)):
            for function in self.FUNCTIONS:
                refused(self, OtherOffers, {}, function, near, far, None, None)
            refused(self, OtherOffers, {}, ends_hold, near, far, (), (), ("ranks", (((), 0),)))

    def test_bad_sets(self):
        values = [value for value in any_values() if not any(is_same(value, some) for some in naive.sets_of(3))]
        for value in values + [(3,), (0, 2, 1)]:
            told = {"thing": value}
            for function in self.FUNCTIONS:
                refused(self, BadSet, told, function, LEAST, EVERY, value, (0, 1))
                refused(self, BadSet, told, function, near=LEAST, far=EVERY, standing=ALL, part=value)
            refused(self, BadSet, told, ends_hold, LEAST, EVERY, value, (), None)
            refused(self, BadSet, told, ends_hold, LEAST, EVERY, ALL, value, None)

    def test_parts_that_do_not_stand_or_are_not_agreed(self):
        for near, far, standing, part in (
                (LEAST, EVERY, (0, 1), (2,)), (LEAST, EVERY, ALL, (0, 1)), (EVERY, LEAST, ALL, (0, 1)),
                (NONE, BEST, (0, 1), (0,)), (BEST, NONE, (0, 1), (0,)),
        ):
            for function in self.FUNCTIONS:
                refused(self, BadSet, {"thing": part}, function, near, far, standing, part)
            refused(self, BadSet, {"thing": part}, ends_hold, near, far, standing, part, ("ring", (), (0,)))


if __name__ == "__main__":
    unittest.main()
