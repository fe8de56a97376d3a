"""[6.2]: chains.py."""

import random
import unittest
from itertools import product

import naive
from samples import BEST, EVERY, LEAST, LENDERS, NONE, TAKERS, any_values, called, is_same, refused, spoilt
from test_pressing import FOUR, agreed_parts, cases
from test_sides import ALL

from offerstands.chains import chain_ends, chain_holds, first_chain, judge_chain
from offerstands.errors import BadSet, OtherOffers
from offerstands.lists import by_lists

SIX = (0, 1, 2, 3, 4, 5)
# Two sides of six offers with agreed parts from which no chain goes on.
LONG_NEAR = by_lists(6, ((2, 3, 1, 4, 5), (0, 1, 4, 3, 5, 2), (5, 4, 3, 0, 1, 2)))
LONG_FAR = by_lists(6, ((3, 5, 2, 0, 1, 4), (1, 2, 0, 5), (4,), (4, 0, 5)))


def six():
    """Two sides of six offers, what stands, an agreed part of it."""
    for near, far in ((LONG_NEAR, LONG_FAR), (LONG_FAR, LONG_NEAR)):
        for standing in (SIX, (0, 1, 2, 3, 5), (1, 3, 4)):
            for part in agreed_parts(near, far, standing):
                yield near, far, standing, part


def is_chain(near, far, standing, part, items):
    end = naive.pressed_in(near, far, standing, part, items)
    return end is not None and naive.is_settled(near, far, standing, end)


def is_closed(near, far, standing, part, thing):
    if type(thing) is not tuple or not all(
            any(is_same(item, some) for some in naive.parts_of(standing)) for item in thing):
        return False
    if list(thing) != sorted(set(thing)) or part not in thing:
        return False
    for some in thing:
        if not naive.is_agreed(near, far, some) or naive.is_settled(near, far, standing, some):
            return False
        if not set(naive.presses(near, far, standing, some).values()) <= set(thing):
            return False
    return True


def right_paper(near, far, standing, part, thing):
    if type(thing) is not tuple or len(thing) != 2 or type(thing[0]) is not str:
        return False
    if thing[0] == "chain":
        return type(thing[1]) is tuple and is_chain(near, far, standing, part, thing[1])
    return thing[0] == "closed" and is_closed(near, far, standing, part, thing[1])


class ChainsTest(unittest.TestCase):
    def test_worked_examples(self):
        self.assertEqual(called(self, first_chain, LEAST, LEAST, ALL, (2,)), (0,))
        self.assertEqual(called(self, first_chain, LENDERS, TAKERS, FOUR, (0,)), (2,))
        self.assertEqual(called(self, chain_ends, LENDERS, TAKERS, FOUR, (0,)), ((0, 2), (1, 3)))
        self.assertEqual(called(self, judge_chain, LENDERS, TAKERS, FOUR, (0,)), ("chain", (2,)))
        # Behind 1, 2, 3, 0 the part is as it was.
        paper = ("chain", (1, 2, 3, 0, 2))
        self.assertIs(called(self, chain_holds, LENDERS, TAKERS, FOUR, (0,), paper), True)
        self.assertIs(chain_holds(LENDERS, TAKERS, FOUR, (0,), ("chain", (1, 2, 3, 0))), False)

    def test_as_the_document_says(self):
        kinds = {}
        for near, far, standing, part in list(cases(431)) + list(six()):
            parts = naive.parts_behind(near, far, standing, part)
            ends = tuple(some for some in parts if naive.is_settled(near, far, standing, some))
            self.assertEqual(chain_ends(near, far, standing, part), ends)
            paper = judge_chain(near, far, standing, part)
            self.assertTrue(right_paper(near, far, standing, part, paper))
            self.assertIs(chain_holds(near, far, standing, part, paper), True)
            self.assertEqual(paper[0], "chain" if ends else "closed")
            self.assertEqual(first_chain(near, far, standing, part), paper[1] if ends else None)
            self.assertTrue(ends or len(near) == 6)
            kinds[paper[0], len(paper[1]) if ends else None] = True
        self.assertIn(("closed", None), kinds)
        self.assertTrue({("chain", many) for many in range(4)} <= set(kinds), kinds)

    def test_chains_are_first(self):
        for near, far, standing, part in list(cases(432))[::2] + list(six())[::5]:
            chain = first_chain(near, far, standing, part)
            if chain is not None and len(chain) < 5:
                rows = [row for many in range(len(chain) + 1) for row in product(standing, repeat=many)]
                self.assertEqual(chain, next(row for row in rows if is_chain(near, far, standing, part, row)))

    def test_no_chain_of_six_offers(self):
        parts = [row for row in six() if first_chain(*row) is None]
        self.assertGreater(len(parts), 8)
        for near, far, standing, part in parts:
            self.assertEqual(called(self, chain_ends, near, far, standing, part), ())
            word, sets = called(self, judge_chain, near, far, standing, part)
            self.assertEqual(word, "closed")
            self.assertEqual(sets, tuple(sorted(naive.parts_behind(near, far, standing, part))))
            self.assertIs(called(self, first_chain, near, far, standing, part), None)
            for many in range(4):
                for items in product(standing, repeat=many):
                    self.assertIs(chain_holds(near, far, standing, part, ("chain", items)), False)

    def test_nothing_standing_and_settled_parts(self):
        for near, far in ((LEAST, EVERY), (NONE, BEST), (LONG_NEAR, LONG_FAR)):
            self.assertEqual(called(self, judge_chain, near, far, (), ()), ("chain", ()))
            self.assertEqual(first_chain(near, far, (), ()), ())
            self.assertEqual(chain_ends(near, far, (), ()), ((),))
            self.assertIs(chain_holds(near, far, (), (), ("closed", ())), False)
            self.assertIs(chain_holds(near, far, (), (), ("closed", ((),))), False)
        self.assertEqual(judge_chain(LENDERS, TAKERS, FOUR, (1, 3)), ("chain", ()))
        self.assertEqual(chain_ends(LENDERS, TAKERS, FOUR, (1, 3)), ((1, 3),))


class ChainPapersTest(unittest.TestCase):
    def test_chains_of_other_hands(self):
        chance = random.Random(433)
        met = {True: 0, False: 0}
        for near, far, standing, part in list(cases(434))[::4] + list(six())[::2]:
            for _ in range(12):
                offers, there = [], part
                for _ in range(chance.randint(0, 8)):
                    told = naive.presses(near, far, standing, there)
                    offers.append(chance.choice(sorted(told) or [0]) if chance.random() < 0.97 else 5)
                    there = told.get(offers[-1], there)
                right = is_chain(near, far, standing, part, offers)
                paper = ("chain", tuple(offers))
                self.assertIs(chain_holds(near, far, standing, part, paper), right)
                met[right] += 1
        self.assertGreater(min(met.values()), 100)
        round_and_round = (1, 2, 3, 0) * 49
        self.assertIs(chain_holds(LENDERS, TAKERS, FOUR, (0,), ("chain", round_and_round + (2,))), True)
        self.assertIs(chain_holds(LENDERS, TAKERS, FOUR, (0,), ("chain", round_and_round)), False)
        for value in any_values():
            told = is_chain(LEAST, LEAST, ALL, (2,), (1, value))
            self.assertIs(chain_holds(LEAST, LEAST, ALL, (2,), ("chain", (1, value))), told, value)

    def test_closed_lots_of_other_hands(self):
        near, far, standing = LONG_NEAR, LONG_FAR, SIX
        lost = [part for part in agreed_parts(near, far, standing) if first_chain(near, far, standing, part) is None]
        every = tuple(sorted(lost))
        for part in lost:
            self.assertIs(called(self, chain_holds, near, far, standing, part, ("closed", every)), True)
            needed = judge_chain(near, far, standing, part)[1]
            for rows in (every, needed):
                for at in range(len(rows)):
                    less = rows[:at] + rows[at + 1:]
                    told = is_closed(near, far, standing, part, less)
                    self.assertIs(chain_holds(near, far, standing, part, ("closed", less)), told)
                    twice = rows[:at + 1] + rows[at:]
                    self.assertIs(chain_holds(near, far, standing, part, ("closed", twice)), False)
            self.assertIs(chain_holds(near, far, standing, part, ("closed", needed[::-1])), False)
            self.assertIs(chain_holds(near, far, standing, part, ("closed", list(needed))), False)
            self.assertIs(chain_holds(far, near, standing, part, ("closed", every)), True)
        for part in naive.parts_of(standing):
            more = tuple(sorted({*every, part}))
            self.assertIs(is_closed(near, far, standing, lost[0], more), part in every)
            self.assertIs(chain_holds(near, far, standing, lost[0], ("closed", more)), part in every)
        # In order, as part 6 tells other rows, is another order than ascending.
        self.assertNotEqual(every, tuple(sorted(every, key=lambda some: (len(some), some))))
        in_order = tuple(sorted(every, key=lambda some: (len(some), some)))
        self.assertIs(chain_holds(near, far, standing, lost[0], ("closed", in_order)), False)

    def test_settled_parts_close_nothing(self):
        settled = tuple(sorted(naive.settled_sets(LONG_NEAR, LONG_FAR, SIX)))
        for part in settled:
            self.assertIs(chain_holds(LONG_NEAR, LONG_FAR, SIX, part, ("closed", (part,))), False)
            self.assertIs(chain_holds(LONG_NEAR, LONG_FAR, SIX, part, ("closed", settled)), False)

    def test_any_value_as_paper(self):
        lost = [row for row in six() if first_chain(*row) is None]
        for near, far, standing, part in (
                (LEAST, LEAST, ALL, (2,)), (LENDERS, TAKERS, FOUR, (0,)), (BEST, BEST, (0, 1), (1,)),
                (EVERY, EVERY, ALL, ()), lost[0], lost[-1],
        ):
            paper = judge_chain(near, far, standing, part)
            for thing in any_values() + [paper] + list(spoilt(paper)):
                told = right_paper(near, far, standing, part, thing)
                self.assertIs(chain_holds(near, far, standing, part, thing), told, thing)


class ErrorsTest(unittest.TestCase):
    FUNCTIONS = (first_chain, chain_ends, judge_chain)

    def test_other_offers_ahead_of_all_else(self):
        for near, far in ((BEST, LEAST), (LENDERS, LONG_NEAR)):
            for function in self.FUNCTIONS:
                refused(self, OtherOffers, {}, function, near, far, None, None)
            refused(self, OtherOffers, {}, chain_holds, near, far, (), (), ("chain", ()))

    def test_bad_sets(self):
        for value in any_values() + list(spoilt(ALL)):
            if any(is_same(value, some) for some in naive.sets_of(3)):
                continue
            told = {"thing": value}
            for function in self.FUNCTIONS:
                refused(self, BadSet, told, function, LEAST, EVERY, value, (0, 1))
                refused(self, BadSet, told, function, LEAST, EVERY, ALL, value)
                refused(self, BadSet, told, function, near=LEAST, far=EVERY, standing=value, part=())
            refused(self, BadSet, told, chain_holds, LEAST, EVERY, value, (), ("chain", ()))
            refused(self, BadSet, told, chain_holds, LEAST, EVERY, ALL, value, ("chain", ()))

    def test_parts_that_do_not_stand_or_are_not_agreed(self):
        for near, far, standing, part in (
                (LEAST, EVERY, (0, 1), (2,)), (LEAST, EVERY, ALL, (0, 1)), (EVERY, LEAST, ALL, (0, 1)),
                (NONE, BEST, (0, 1), (0,)), (BEST, NONE, (0, 1), (0,)),
        ):
            for function in self.FUNCTIONS:
                refused(self, BadSet, {"thing": part}, function, near, far, standing, part)
            refused(self, BadSet, {"thing": part}, chain_holds, near, far, standing, part, ("chain", ()))


if __name__ == "__main__":
    unittest.main()
