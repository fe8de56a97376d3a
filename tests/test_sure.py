"""[5.4]: sure.py."""

import unittest

import naive
from samples import BEST, EVERY, GREATEST, LEAST, LENDERS, NONE, TAKERS, any_values, called, is_same, refused, spoilt
from test_sides import ALL, sides, some_standing

from offerstands.errors import BadOffer, BadSet, OtherOffers
from offerstands.lists import by_lists
from offerstands.sure import judge_sure, sure_holds, sure_offers, vain_offers

FOUR = (0, 1, 2, 3)


def right_papers(near, far, standing, offer):
    """All right papers about an offer, of all three kinds."""
    sets = naive.settled_sets(near, far, standing)
    if all(offer in some for some in sets):
        return [("sure",)]
    if not any(offer in some for some in sets):
        return [("vain",)]
    return [("open", one, other) for one in sets for other in sets if offer in one and offer not in other]


class SureTest(unittest.TestCase):
    def test_worked_examples(self):
        self.assertEqual(called(self, judge_sure, LENDERS, TAKERS, FOUR, 0), ("open", (0, 2), (1, 3)))
        self.assertEqual(judge_sure(LENDERS, TAKERS, FOUR, 1), ("open", (1, 3), (0, 2)))
        self.assertIs(called(self, sure_holds, LENDERS, TAKERS, FOUR, 0, ("open", (0, 2), (1, 3))), True)
        self.assertIs(sure_holds(LENDERS, TAKERS, FOUR, 1, ("open", (0, 2), (1, 3))), False)

    def test_as_the_document_says(self):
        kinds = {}
        for near, far in sides(401):
            for standing in some_standing(near, far):
                for offer in standing:
                    right = right_papers(near, far, standing, offer)
                    paper = judge_sure(near, far, standing, offer)
                    self.assertIn(paper, right)
                    kinds[paper[0]] = kinds.get(paper[0], 0) + 1
                    sure, vain = right == [("sure",)], right == [("vain",)]
                    self.assertIs(offer in sure_offers(near, far, standing), sure)
                    self.assertIs(offer in vain_offers(near, far, standing), vain)
        self.assertGreater(min(kinds.values()), 10)
        self.assertEqual(len(kinds), 3)

    def test_sets_of_them(self):
        for near, far in sides(402)[::9]:
            for standing in some_standing(near, far):
                for function, word in ((sure_offers, "sure"), (vain_offers, "vain")):
                    told = tuple(x for x in standing if right_papers(near, far, standing, x) == [(word,)])
                    self.assertEqual(called(self, function, near, far, standing), told)

    def test_nothing_standing(self):
        for near, far in ((LEAST, GREATEST), (NONE, BEST)):
            self.assertEqual(sure_offers(near, far, ()), ())
            self.assertEqual(vain_offers(near, far, ()), ())

    def test_papers_of_any_hand(self):
        met = {}
        for near, far in sides(403)[::7] + [(LEAST, GREATEST), (LENDERS, TAKERS)]:
            standing = some_standing(near, far)[-1]
            for offer in standing:
                right = right_papers(near, far, standing, offer)
                every = [("open", one, other) for one in naive.parts_of(standing) for other in naive.parts_of(standing)]
                for paper in [("sure",), ("vain",)] + every[::7] + right:
                    self.assertIs(sure_holds(near, far, standing, offer, paper), paper in right)
                met[right[0][0], len(right) > 1] = True
        self.assertEqual(len(met), 4)

    def test_settled_among_what_stands_only(self):
        # (1, 3) is settled of all, but it does not stand whole among these.
        self.assertIs(sure_holds(LENDERS, TAKERS, (0, 1, 2), 0, ("open", (0, 2), (1, 3))), False)
        self.assertEqual(judge_sure(LENDERS, TAKERS, (0, 1, 2), 0), ("sure",))
        self.assertEqual(judge_sure(LENDERS, TAKERS, (0, 1, 2), 1), ("vain",))

    def test_any_value_as_paper(self):
        for near, far, standing, offer in (
                (LENDERS, TAKERS, FOUR, 0), (LEAST, GREATEST, ALL, 1), (EVERY, EVERY, ALL, 2), (LEAST, LEAST, ALL, 2),
                (LEAST, GREATEST, (0, 1), 1), (BEST, BEST, (0, 1), 0),
        ):
            right = right_papers(near, far, standing, offer)
            for thing in any_values() + right + [worse for paper in right for worse in spoilt(paper)]:
                told = any(is_same(thing, paper) for paper in right)
                self.assertIs(called(self, sure_holds, near, far, standing, offer, thing), told, thing)


class ErrorsTest(unittest.TestCase):
    def test_other_offers_ahead_of_all_else(self):
        for near, far in ((BEST, LEAST), (LENDERS, by_lists(5, ()))):
            refused(self, OtherOffers, {}, judge_sure, near, far, None, None)
            refused(self, OtherOffers, {}, sure_holds, near, far, (), 0, None)
            for function in (sure_offers, vain_offers):
                refused(self, OtherOffers, {}, function, near, far, None)
                refused(self, OtherOffers, {}, function, near, far, ())

    def test_bad_sets_ahead_of_bad_offers(self):
        for value in any_values() + list(spoilt(ALL)):
            if any(is_same(value, some) for some in naive.sets_of(3)):
                continue
            for function in (sure_offers, vain_offers):
                refused(self, BadSet, {"thing": value}, function, LEAST, EVERY, value)
                refused(self, BadSet, {"thing": value}, function, near=LEAST, far=EVERY, standing=value)
            refused(self, BadSet, {"thing": value}, judge_sure, LEAST, EVERY, value, None)
            refused(self, BadSet, {"thing": value}, judge_sure, near=LEAST, far=EVERY, standing=value, offer=0)
            refused(self, BadSet, {"thing": value}, sure_holds, LEAST, EVERY, value, 0, ("sure",))

    def test_bad_offers(self):
        for standing in ((0, 1), (1, 2), ()):
            for value in any_values() + [0, 1, 2, 3]:
                if type(value) is not int or value not in standing:
                    refused(self, BadOffer, {"thing": value}, judge_sure, LEAST, EVERY, standing, value)
                    refused(self, BadOffer, {"thing": value}, sure_holds, LEAST, EVERY, standing, value, ("sure",))
        refused(self, BadOffer, {"thing": 2}, judge_sure, near=LEAST, far=EVERY, standing=(0, 1), offer=2)


if __name__ == "__main__":
    unittest.main()
