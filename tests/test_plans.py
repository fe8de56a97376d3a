"""[8.2], [8.3]: plans.py."""

import random
import unittest

import naive
from samples import (
    BEST, BOTH, NONE, T, U, any_values, called, deeds_of_trade, is_same, random_choosers, random_trade, refused, spoilt,
)
from test_means import all_houses
from test_positions import SHORT

from offerstands.errors import OtherOffers, TooMany
from offerstands.lists import by_lists
from offerstands.means import mean_broken
from offerstands.plans import fewest_deeds, greatest_plan, judge_waiting, least_waiting, waiting_holds
from offerstands.trades import Trade
from offerstands.waits import pledges_of

BEGINNING = ((), ())
BARRED = (((), (), 1, ("come", 0)), (((0, 2),), (0,), 0, ("come", 1)))
GREAT = 10 ** 39


def small_houses(seed):
    found = [row for row in all_houses(seed) if len(naive.pledges(*row)) <= 100]
    # In these two offers wait at some time, whoever keeps.
    for hard, lives, loose in ((943195, (2, 1, 1, 1), (2,)), (636192, (1, 2, 1, 1), (0, 1, 2))):
        found.append((*random_choosers(4, 2, hard), Trade(lives, loose)))
    return found


def plan_slowly(near, far, trade, number):
    """What is left of all pledges with few waiting when those that cannot go on are struck out, one by one."""
    plan = {row for row in naive.pledges(near, far, trade) if len(naive.waiting(near, far, row)) <= number}
    while True:
        lost = [row for row in plan if not all(
            plan & set(naive.keeper_turns(near, far, trade, row, deed)) for deed in deeds_of_trade(trade))]
        if not lost:
            return tuple(sorted(plan))
        plan -= set(lost)


def ranks_slowly(near, far, trade, number):
    """The least rank of each pledge that has one: each rank is tried for all pledges, from 0 on."""
    pledges = naive.pledges(near, far, trade)
    ranks = {}
    for rank in range(len(pledges)):
        for row in pledges:
            if row not in ranks and any(all(
                    len(naive.waiting(near, far, turn)) > number or ranks.get(turn, rank) < rank
                    for turn in naive.keeper_turns(near, far, trade, row, deed)) for deed in deeds_of_trade(trade)):
                ranks[row] = rank
        if rank not in ranks.values():
            return ranks
    return ranks


def right_rows(near, far, trade, thing, size):
    if type(thing) is not tuple:
        return False
    pledges = naive.pledges(near, far, trade)
    for item in thing:
        if type(item) is not tuple or len(item) != size or not any(is_same(item[:2], row) for row in pledges):
            return False
        if size == 4 and not (type(item[2]) is int and item[2] >= 0):
            return False
        if size == 4 and not any(is_same(item[3], deed) for deed in deeds_of_trade(trade)):
            return False
    there = [item[:2] for item in thing]
    return list(thing) == sorted(thing) and len(set(there)) == len(there) and BEGINNING in there


def right_plan(near, far, trade, number, thing):
    if not right_rows(near, far, trade, thing, 2):
        return False
    for row in thing:
        if len(naive.waiting(near, far, row)) > number:
            return False
        for deed in deeds_of_trade(trade):
            if not set(naive.keeper_turns(near, far, trade, row, deed)) & set(thing):
                return False
    return True


def right_barred(near, far, trade, number, thing):
    if not right_rows(near, far, trade, thing, 4):
        return False
    ranks = {(dated, kept): rank for dated, kept, rank, _ in thing}
    for dated, kept, rank, deed in thing:
        for turn in naive.keeper_turns(near, far, trade, (dated, kept), deed):
            if len(naive.waiting(near, far, turn)) <= number and not ranks.get(turn, rank) < rank:
                return False
    return True


def right_paper(near, far, trade, number, thing):
    if type(thing) is not tuple or len(thing) != 2 or type(thing[0]) is not str:
        return False
    if thing[0] == "plan":
        return right_plan(near, far, trade, number, thing[1])
    return thing[0] == "barred" and right_barred(near, far, trade, number, thing[1])


class PlansTest(unittest.TestCase):
    def test_worked_examples(self):
        self.assertEqual(called(self, least_waiting, BEST, BOTH, T), 1)
        self.assertEqual(called(self, fewest_deeds, BEST, BOTH, T, 0), 2)
        self.assertIs(called(self, fewest_deeds, BEST, BOTH, T, 1), None)
        self.assertEqual(called(self, judge_waiting, BEST, BOTH, T, 0)[0], "barred")
        self.assertIs(called(self, waiting_holds, BEST, BOTH, T, 0, ("barred", BARRED)), True)
        self.assertIs(waiting_holds(BEST, BOTH, T, 1, ("barred", BARRED)), False)
        self.assertEqual(called(self, least_waiting, BOTH, BOTH, U), 0)

    def test_as_the_document_says(self):
        met = {}
        for near, far, trade in small_houses(541):
            least = called(self, least_waiting, near, far, trade, most=600)
            self.assertEqual(least == 0, mean_broken(near, far, trade) == (0, 1))
            self.assertEqual(least_waiting(far, near, trade), least)
            for number in range(near.offers + 1):
                plan = plan_slowly(near, far, trade, number)
                self.assertEqual(greatest_plan(near, far, trade, number), plan)
                # Whatever goes on comes to the beginning when all has perished.
                self.assertEqual((BEGINNING in plan, len(plan) > 0), (number >= least, number >= least))
                paper = judge_waiting(near, far, trade, number)
                self.assertEqual(paper[0], "plan" if number >= least else "barred")
                self.assertTrue(right_paper(near, far, trade, number, paper))
                self.assertIs(waiting_holds(near, far, trade, number, paper), True)
                if number >= least:
                    self.assertIs(fewest_deeds(near, far, trade, number), None)
                else:
                    ranks = ranks_slowly(near, far, trade, number)
                    for dated, kept, rank, _ in paper[1]:
                        self.assertEqual(ranks[dated, kept], rank)
                    self.assertEqual(fewest_deeds(near, far, trade, number), ranks[BEGINNING] + 1)
                met[number, paper[0], len(plan) > 0] = True
        self.assertTrue({(0, "plan", True), (0, "barred", False), (1, "barred", False)} <= set(met), met)

    def test_fewest_deeds_against_all_streams_of_deeds(self):
        """Deeds are chosen behind the turns: so many are enough, and no fewer."""
        for near, far, trade in small_houses(542):
            deeds = fewest_deeds(near, far, trade, 0)
            if deeds is not None and deeds <= 5:
                self.assertTrue(self.can_bar(near, far, trade, 0, BEGINNING, deeds))
                self.assertFalse(self.can_bar(near, far, trade, 0, BEGINNING, deeds - 1))

    def can_bar(self, near, far, trade, number, pledge, deeds):
        if deeds == 0:
            return False
        for deed in deeds_of_trade(trade):
            turns = naive.keeper_turns(near, far, trade, pledge, deed)
            if all(len(naive.waiting(near, far, turn)) > number
                   or self.can_bar(near, far, trade, number, turn, deeds - 1) for turn in turns):
                return True
        return False

    def test_great_numbers(self):
        for near, far, trade in small_houses(543)[::4]:
            every = tuple(naive.pledges(near, far, trade))
            self.assertEqual(called(self, greatest_plan, near, far, trade, GREAT), every)
            self.assertEqual(called(self, judge_waiting, near, far, trade, GREAT), ("plan", every))
            self.assertIs(called(self, fewest_deeds, near, far, trade, GREAT), None)
            self.assertIs(called(self, waiting_holds, near, far, trade, GREAT, ("plan", every)), True)

    def test_most(self):
        for near, far, trade in small_houses(544)[::3]:
            many = len(naive.pledges(near, far, trade))
            functions = ((least_waiting, ()), (judge_waiting, (0,)), (fewest_deeds, (GREAT,)), (greatest_plan, (1,)))
            for function, number in functions:
                told = function(near, far, trade, *number)
                self.assertEqual(called(self, function, near, far, trade, *number, most=many), told)
                refused(self, TooMany, {"most": many - 1}, function, near, far, trade, *number, most=many - 1)
        for function, number in ((least_waiting, ()), (judge_waiting, (0,)), (fewest_deeds, (0,)), (greatest_plan, (0,))):
            refused(self, TooMany, {"most": 400}, function, BOTH, BOTH, Trade((10, 10), ()), *number)

    def test_four_hundred_pledges(self):
        """The greatest houses within the limits."""
        chance = random.Random(545)
        tried = 0
        while tried < 4:
            near, far = random_choosers(4, 2, chance.randrange(10 ** 6))
            trade = random_trade(chance, 4, 3)
            if 300 <= len(pledges_of(near, far, trade, most=10 ** 6)) <= 400:
                least = least_waiting(near, far, trade)
                for number in (least, least - 1)[:1 + (least > 0)]:
                    paper = judge_waiting(near, far, trade, number)
                    self.assertEqual(paper[0], "plan" if number == least else "barred")
                    self.assertIs(waiting_holds(near, far, trade, number, paper), True)
                tried += 1


class PlanPapersTest(unittest.TestCase):
    def test_fewer_and_more_rows(self):
        chance = random.Random(546)
        tried = {("plan", True): 0, ("plan", False): 0, ("barred", True): 0, ("barred", False): 0}
        for near, far, trade in [row for row in small_houses(547) if len(naive.pledges(*row)) <= 60]:
            for number in (0, 1):
                word, rows = judge_waiting(near, far, trade, number)
                for _ in range(8):
                    made = list(rows)
                    if word == "barred":
                        times = chance.randint(1, 3)
                        made = [(dated, kept, rank * times + 1, deed) for dated, kept, rank, deed in made]
                    if chance.random() < 0.6 and len(made) > 1:
                        at = chance.randrange(len(made))
                        if word == "barred" and chance.random() < 0.7:
                            dated, kept, rank, deed = made[at]
                            made[at] = (dated, kept, max(0, rank + chance.choice((-1, 1))), deed)
                        else:
                            del made[at]
                    thing = (word, tuple(sorted(made)))
                    told = right_paper(near, far, trade, number, thing)
                    self.assertIs(waiting_holds(near, far, trade, number, thing), told)
                    tried[word, told] += 1
                for more in naive.pledges(near, far, trade)[::7]:
                    if word == "plan" and more not in rows:
                        thing = (word, tuple(sorted((*rows, more))))
                        told = right_paper(near, far, trade, number, thing)
                        self.assertIs(waiting_holds(near, far, trade, number, thing), told)
        self.assertGreater(min(tried.values()), 5)

    def test_rows_one_by_one(self):
        plan = judge_waiting(BEST, BOTH, T, 1)[1]
        for word, number, rows in (("plan", 1, plan), ("barred", 0, BARRED)):
            self.assertIs(waiting_holds(BEST, BOTH, T, number, (word, rows)), True)
            for at in range(len(rows)):
                less = (word, rows[:at] + rows[at + 1:])
                told = right_paper(BEST, BOTH, T, number, less)
                self.assertIs(waiting_holds(BEST, BOTH, T, number, less), told)
                self.assertIs(waiting_holds(BEST, BOTH, T, number, (word, rows[:at + 1] + rows[at:])), False)
            for wrong in (rows[::-1], list(rows), ()):
                self.assertIs(waiting_holds(BEST, BOTH, T, number, (word, wrong)), False)
        self.assertIs(waiting_holds(BEST, BOTH, T, 0, ("plan", plan)), False)
        twice = (BARRED[0], (*BEGINNING, 2, ("come", 0)), BARRED[1])
        self.assertIs(waiting_holds(BEST, BOTH, T, 0, ("barred", twice)), False)
        greater = ((*BEGINNING, GREAT, ("come", 0)), (((0, 2),), (0,), GREAT - 1, ("come", 1)))
        self.assertIs(waiting_holds(BEST, BOTH, T, 0, ("barred", greater)), True)
        even = ((*BEGINNING, 1, ("come", 0)), (((0, 2),), (0,), 1, ("come", 1)))
        self.assertIs(waiting_holds(BEST, BOTH, T, 0, ("barred", even)), False)

    def test_any_value_as_paper(self):
        for near, far, trade, number in (
                (BEST, BOTH, SHORT, 0), (BEST, BOTH, SHORT, 1), (NONE, BOTH, Trade((1, 1), (0,)), 0),
                (BOTH, BOTH, SHORT, 2), (BEST, BEST, Trade((1, 1), (1,)), 0),
        ):
            paper = judge_waiting(near, far, trade, number)
            for thing in any_values() + [paper] + list(spoilt(paper)):
                told = right_paper(near, far, trade, number, thing)
                self.assertIs(waiting_holds(near, far, trade, number, thing), told, thing)


class ErrorsTest(unittest.TestCase):
    def test_other_offers_ahead_of_all_else(self):
        three, one = by_lists(3, ()), Trade((1,), ())
        for near, far, trade in ((BEST, three, T), (three, BEST, T), (BEST, BOTH, one), (three, three, T)):
            refused(self, OtherOffers, {}, least_waiting, near, far, trade, most=0)
            refused(self, OtherOffers, {}, least_waiting, near=near, far=far, trade=trade)
            for function in (judge_waiting, fewest_deeds, greatest_plan):
                refused(self, OtherOffers, {}, function, near, far, trade, 0, most=0)
            refused(self, OtherOffers, {}, waiting_holds, near, far, trade, 0, None)


if __name__ == "__main__":
    unittest.main()
