"""[10.3]: groups.py."""

import unittest
from itertools import combinations, product

import naive
from samples import any_values, called, is_same, spoilt
from test_lies import SEVERAL, rather
from test_markets import F, M, lists_of, markets

from offerstands.groups import first_group, group_gain, group_holds, is_group, judge_group
from offerstands.lies import first_gain
from offerstands.lists import by_lists
from offerstands.markets import Market
from offerstands.shrinking import does_shrink


def groups_of(market):
    houses = range(len(market.shares))
    return [group for many in range(1, len(houses) + 1) for group in combinations(houses, many)]


def with_lists(market, group, rows):
    told = dict(zip(group, rows))
    return tuple(told.get(house, row) for house, row in enumerate(market.lists))


def wanted(market, group):
    return sorted(product(*[rather(market, house) for house in group]))


def losing(market, group, offers):
    told = with_lists(market, group, [(x,) for x in offers])
    return [house for house, x in zip(group, offers) if naive.gets(market, told, house) != x]


def gains_by_some_lists(market, group):
    """Whether a group gains by lists of any length: all are tried."""
    for rows in product(*[lists_of(market.shares[house]) for house in group]):
        told = with_lists(market, group, rows)
        if all(naive.has_rather(market, house, naive.gets(market, told, house),
                                naive.gets(market, market.lists, house)) for house in group):
            return True
    return False


def right_paper(market, group, thing):
    if type(thing) is not tuple or len(thing) != 2 or type(thing[0]) is not str:
        return False
    rows = wanted(market, group)
    if thing[0] == "gain":
        return any(is_same(thing[1], offers) and not losing(market, group, offers) for offers in rows)
    if thing[0] != "none" or type(thing[1]) is not tuple or len(thing[1]) != len(rows):
        return False
    for offers, row in zip(rows, thing[1]):
        if not any(is_same(row, (offers, house)) for house in losing(market, group, offers)):
            return False
    return True


# By this taker 2 stands ahead of 3, 3 of 0, and 0 of 1 and 4, which go together. The house 0 has 0 rather than 1, 1
# rather than 2; the house 1 has 3 rather than 4. If all tell the truth, 2 is left; alone each of both is beaten by 3
# or 0 of the other one, together they get 1 and 4.
PAIR = Market(by_lists(5, ((2, 3, 0, 1), (2, 3, 0, 4))), ((0, 1, 2), (3, 4)), ((0, 1, 2), (3, 4)))


class GroupsTest(unittest.TestCase):
    def test_worked_examples(self):
        self.assertEqual(called(self, first_group, M), (0,))
        self.assertEqual(called(self, group_gain, M, (0,)), (1,))
        self.assertEqual(called(self, judge_group, M, (0,)), ("gain", (1,)))
        self.assertIs(called(self, group_holds, M, (0,), ("gain", (1,))), True)
        self.assertIs(called(self, first_group, F), None)
        self.assertEqual(called(self, judge_group, F, (0, 1)), ("none", ()))
        self.assertIs(called(self, group_gain, F, (0, 1)), None)

    def test_is_group(self):
        for market in markets(661, 10):
            right = groups_of(market)
            made = [worse for group in right[:8] for worse in spoilt(group)]
            for thing in right + made + any_values():
                self.assertIs(is_group(market, thing), any(is_same(thing, group) for group in right), thing)
        self.assertIs(called(self, is_group, M, (0, 1)), True)
        self.assertIs(called(self, is_group, M, ()), False)

    def test_as_the_document_says(self):
        met = {}
        for market in markets(662):
            gaining = []
            for group in groups_of(market):
                rows = [offers for offers in wanted(market, group) if not losing(market, group, offers)]
                self.assertEqual(group_gain(market, group), rows[0] if rows else None)
                gaining += [group] if rows else []
                paper = judge_group(market, group)
                self.assertEqual(paper[0], "gain" if rows else "none")
                self.assertTrue(not rows or paper[1] == rows[0])
                self.assertTrue(right_paper(market, group, paper))
                self.assertIs(group_holds(market, group, paper), True)
                met[paper[0], len(group), len(paper[1]) > 0] = True
            self.assertEqual(first_group(market), gaining[0] if gaining else None)
            self.assertFalse(gaining and not does_shrink(market.taker))
        self.assertTrue({("gain", 1, True), ("none", 1, True), ("none", 2, True), ("none", 2, False)} <= set(met), met)

    def test_lists_of_any_length(self):
        """Lists of one offer each are enough."""
        for market in markets(663, 30):
            for group in groups_of(market):
                if len(group) <= 2 and len(market.shares) <= 3:
                    self.assertEqual(group_gain(market, group) is not None, gains_by_some_lists(market, group))

    def test_a_group_gains_where_no_single_house_does(self):
        self.assertIs(first_gain(PAIR), None)
        self.assertEqual(called(self, first_group, PAIR), (0, 1))
        self.assertEqual(called(self, judge_group, PAIR, (0, 1)), ("gain", (1, 4)))
        for house in (0, 1):
            self.assertEqual(judge_group(PAIR, (house,))[0], "none")
            self.assertFalse(gains_by_some_lists(PAIR, (house,)))
        self.assertIs(group_holds(PAIR, (0, 1), ("gain", (1, 4))), True)
        self.assertTrue(gains_by_some_lists(PAIR, (0, 1)))

    def test_whichever_house_loses(self):
        """In a paper "none" each house that does not get its offer is right."""
        tried = {True: 0, False: 0}
        for market in markets(664, 60):
            for group in groups_of(market):
                paper = judge_group(market, group)
                if paper[0] != "none" or not 0 < len(paper[1]) < 7:
                    continue
                houses = (-1, *group, *[house for house in range(len(market.shares)) if house not in group], 9)
                for named in product(houses, repeat=len(paper[1])) if len(paper[1]) < 3 else [(x,) * 9 for x in houses]:
                    thing = ("none", tuple((offers, house) for (offers, _), house in zip(paper[1], named)))
                    told = right_paper(market, group, thing)
                    self.assertIs(group_holds(market, group, thing), told)
                    tried[told] += 1
        self.assertGreater(min(tried.values()), 10)

    def test_each_gain_is_a_paper(self):
        several = 0
        for market in (PAIR, SEVERAL, *markets(665, 20)):
            for group in groups_of(market):
                right = 0
                for offers in product(range(market.taker.offers), repeat=len(group)) if len(group) < 4 else []:
                    told = right_paper(market, group, ("gain", offers))
                    self.assertIs(group_holds(market, group, ("gain", offers)), told)
                    right += told
                several += right > 1
        self.assertGreater(several, 0)

    def test_houses_that_would_have_no_offer_rather(self):
        fair = Market(F.taker, F.shares, ((0, 1), (3, 2)))
        for group in groups_of(fair):
            if any(not rather(fair, house) for house in group):
                self.assertEqual(called(self, judge_group, fair, group), ("none", ()))
                self.assertIs(group_holds(fair, group, ("none", ())), True)
        self.assertIs(group_holds(M, (0,), ("none", ())), False)

    def test_any_value_as_paper(self):
        lone = Market(by_lists(3, ((2,),)), ((0, 1), (2,)), ((1, 0), (2,)))
        for market in (M, F, lone, *markets(666, 4)):
            for group in groups_of(market)[:4]:
                paper = judge_group(market, group)
                for thing in [paper, *spoilt(paper), *any_values()]:
                    self.assertIs(group_holds(market, group, thing), right_paper(market, group, thing), thing)

    def test_five_offers(self):
        for market in [row for row in markets(667, 60) if row.taker.offers == 5]:
            for group in groups_of(market):
                self.assertIs(group_holds(market, group, judge_group(market, group)), True)


if __name__ == "__main__":
    unittest.main()
