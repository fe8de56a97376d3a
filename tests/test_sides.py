"""[5.1], [5.2]: sides.py."""

import unittest

import naive
from samples import (
    BEST, BOTH, EVERY, GREATEST, LEAST, LENDERS, NONE, TAKERS, TWO, any_values, called, every_chooser, is_same,
    random_choosers, refused, spoilt,
)
from test_skylines import apart

from offerstands.errors import BadSet, OtherOffers
from offerstands.lists import is_apart
from offerstands.sides import (
    is_agreed, is_as_good, is_settled, judge_settled, settled_holds, settled_sets, wished_by_both,
)

ALL = (0, 1, 2)


def sides(seed):
    """Pairs of choosers, each with the sides exchanged, too."""
    three = [chooser for chooser in every_chooser(3) if is_apart(chooser)][::9]
    found = [(near, far) for near in apart(2) for far in apart(2)]
    found += list(zip(three, three[::-1])) + [(LENDERS, TAKERS), (LEAST, GREATEST), (EVERY, LEAST)]
    for offers in (1, 3, 4, 5):
        more = random_choosers(offers, 6, seed + offers)
        found += list(zip(more, more[1:]))
    return found + [(far, near) for near, far in found]


def papers_of(near, far, standing, part):
    """All right papers about a part, told by the words of the document."""
    found = [("settled",)] if naive.is_settled(near, far, standing, part) else []
    for side, chooser in (("near", near), ("far", far)):
        found += [("left", side, x) for x in part if x not in naive.picks_of(chooser)[part]]
    if naive.is_agreed(near, far, part):
        found += [
            ("wished", x) for x in standing
            if naive.is_wished(near, part, x) and naive.is_wished(far, part, x)
        ]
    return found


def some_standing(near, far):
    sets = naive.sets_of(near.offers)
    return sets if near.offers < 4 else sets[::5] + sets[-1:]


class SidesTest(unittest.TestCase):
    def test_worked_examples(self):
        self.assertEqual(called(self, settled_sets, LEAST, GREATEST, ALL), ((0,), (1,), (2,)))
        self.assertEqual(called(self, wished_by_both, LEAST, GREATEST, ()), ALL)
        self.assertEqual(called(self, wished_by_both, LEAST, GREATEST, (1,)), ())
        self.assertIs(settled_holds(LEAST, GREATEST, ALL, (0, 1), ("left", "near", 1)), True)
        self.assertIs(settled_holds(LEAST, GREATEST, ALL, (0, 1), ("left", "far", 0)), True)
        self.assertIs(settled_holds(LEAST, GREATEST, ALL, (0, 1), ("left", "near", 0)), False)
        self.assertEqual(settled_sets(LEAST, LEAST, (1, 2)), ((1,),))
        self.assertEqual(called(self, judge_settled, LEAST, LEAST, (1, 2), (2,)), ("wished", 1))
        self.assertEqual(settled_sets(LENDERS, TAKERS, (0, 1, 2, 3)), ((0, 2), (1, 3)))
        self.assertEqual(settled_sets(BEST, BOTH, (0, 1)), ((1,),))

    def test_nothing_standing(self):
        for near, far in ((LEAST, GREATEST), (EVERY, EVERY), (NONE, BEST)):
            self.assertEqual(settled_sets(near, far, ()), ((),))
            self.assertIs(is_settled(near, far, (), ()), True)
            self.assertEqual(judge_settled(near, far, (), ()), ("settled",))

    def test_as_the_document_says(self):
        for near, far in sides(81):
            for some in naive.sets_of(near.offers):
                self.assertIs(called(self, is_agreed, near, far, some), naive.is_agreed(near, far, some))
                wished = tuple([
                    x for x in range(near.offers)
                    if naive.is_wished(near, some, x) and naive.is_wished(far, some, x)
                ])
                self.assertEqual(called(self, wished_by_both, near, far, some), wished)
            for standing in some_standing(near, far):
                told = naive.settled_sets(near, far, standing)
                self.assertEqual(settled_sets(near, far, standing), told)
                self.assertGreater(len(told), 0)

    def test_papers(self):
        for near, far in sides(82)[::3]:
            for standing in some_standing(near, far)[-6:]:
                for part in naive.parts_of(standing):
                    right = papers_of(near, far, standing, part)
                    self.assertIs(is_settled(near, far, standing, part), ("settled",) in right)
                    self.assertIn(judge_settled(near, far, standing, part), right)
                    every = [("left", side, x) for side in ("near", "far") for x in range(near.offers)]
                    every += [("settled",)] + [("wished", x) for x in range(near.offers)]
                    for paper in every:
                        self.assertIs(settled_holds(near, far, standing, part, paper), paper in right)

    def test_calls_by_name(self):
        for near, far in sides(83)[::40]:
            standing = naive.sets_of(near.offers)[-1]
            called(self, settled_sets, near, far, standing)
            for part in naive.parts_of(standing):
                paper = called(self, judge_settled, near, far, standing, part)
                self.assertIs(called(self, settled_holds, near, far, standing, part, paper), True)
                self.assertIs(called(self, is_settled, near, far, standing, part), paper == ("settled",))

    def test_any_value_as_paper(self):
        for near, far, standing, part in (
                (LEAST, GREATEST, ALL, (0, 1)), (LEAST, LEAST, (0, 1, 2), (2,)), (LEAST, LEAST, ALL, (0,)),
                (NONE, BEST, (0, 1), (0,)), (BOTH, BOTH, (1,), ()), (BOTH, BOTH, (0, 1), ()),
        ):
            right = papers_of(near, far, standing, part)
            for thing in any_values() + right + [worse for paper in right for worse in spoilt(paper)]:
                told = any(is_same(thing, paper) for paper in right)
                self.assertIs(called(self, settled_holds, near, far, standing, part, thing), told, thing)


class AsGoodTest(unittest.TestCase):
    def test_as_the_document_says(self):
        for chooser in apart(2) + [TWO, EVERY, LENDERS] + random_choosers(4, 4, 84) + random_choosers(5, 2, 85):
            sets = naive.sets_of(chooser.offers)
            for one in sets:
                for other in sets:
                    self.assertIs(is_as_good(chooser, one, other), naive.is_as_good(chooser, one, other))
        self.assertIs(called(self, is_as_good, LENDERS, (1, 3), (0, 2)), True)
        self.assertIs(called(self, is_as_good, LENDERS, (0, 2), (1, 3)), False)

    def test_bad_sets(self):
        for value in any_values() + list(spoilt(ALL)):
            if any(is_same(value, some) for some in naive.sets_of(3)):
                continue
            refused(self, BadSet, {"thing": value}, is_as_good, LEAST, value, None)
            refused(self, BadSet, {"thing": value}, is_as_good, chooser=LEAST, one=(0,), other=value)


class ErrorsTest(unittest.TestCase):
    WITH_PART = (is_settled, judge_settled)

    def bad_sets(self, offers):
        sets = naive.sets_of(offers)
        values = any_values() + list(spoilt(ALL))
        return [value for value in values if not any(is_same(value, some) for some in sets)]

    def test_bad_sets(self):
        for value in self.bad_sets(3):
            for function in (is_agreed, wished_by_both):
                refused(self, BadSet, {"thing": value}, function, LEAST, EVERY, value)
                refused(self, BadSet, {"thing": value}, function, near=LEAST, far=EVERY, some=value)
            refused(self, BadSet, {"thing": value}, settled_sets, LEAST, EVERY, value)
            refused(self, BadSet, {"thing": value}, settled_sets, near=LEAST, far=EVERY, standing=value)
            for function in self.WITH_PART:
                refused(self, BadSet, {"thing": value}, function, LEAST, EVERY, value, None)
                refused(self, BadSet, {"thing": value}, function, LEAST, EVERY, value, (0,))
                refused(self, BadSet, {"thing": value}, function, near=LEAST, far=EVERY, standing=ALL, part=value)
            refused(self, BadSet, {"thing": value}, settled_holds, LEAST, EVERY, value, None, None)
            refused(self, BadSet, {"thing": value}, settled_holds, LEAST, EVERY, ALL, value, ("settled",))

    def test_parts_that_do_not_stand(self):
        for standing, part in (((), (0,)), ((0, 1), (0, 2)), ((1, 2), ALL)):
            for function in self.WITH_PART:
                refused(self, BadSet, {"thing": part}, function, LEAST, EVERY, standing, part)
            refused(self, BadSet, {"thing": part}, settled_holds, LEAST, EVERY, standing, part, ("settled",))

    def test_other_offers_ahead_of_all_else(self):
        for near, far in ((BEST, LEAST), (LENDERS, BEST)):
            for function in (is_agreed, wished_by_both, settled_sets):
                refused(self, OtherOffers, {}, function, near, far, ())
                refused(self, OtherOffers, {}, function, near, far, None)
            for function in self.WITH_PART:
                refused(self, OtherOffers, {}, function, near, far, None, None)
            refused(self, OtherOffers, {}, settled_holds, near, far, None, None, None)


if __name__ == "__main__":
    unittest.main()
