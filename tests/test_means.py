"""[7.2], [7.3]: means.py."""

import random
import unittest
from fractions import Fraction

import naive
from samples import (
    BEST, BOTH, LENDERS, NONE, T, TAKERS, U, any_values, called, deeds_of_trade, is_same, random_choosers, random_trade,
    refused, spoilt,
)
from test_positions import SHORT, houses

from offerstands.errors import OtherOffers, TooMany
from offerstands.lists import by_lists
from offerstands.means import judge_mean, mean_broken, mean_holds, restless_cells
from offerstands.positions import positions_of
from offerstands.trades import Trade

CELLS = (
    ((), (), ("come", 0), 1), (((0, 2),), (0,), ("come", 1), 0), (((0, 2), (1, 2)), (1,), ("gone", 1), 1),
)
GREAT = 10 ** 39 + 7


def right_cells(near, far, trade, thing, size):
    if type(thing) is not tuple:
        return False
    positions = naive.positions(near, far, trade)
    for item in thing:
        if type(item) is not tuple or len(item) != size or type(item[-1]) is not int or item[-1] < 0:
            return False
        if not any(is_same(item[:2], position) for position in positions):
            return False
        if size == 4 and not any(is_same(item[2], deed) for deed in deeds_of_trade(trade)):
            return False
    there = [item[:2] for item in thing]
    return list(thing) == sorted(thing) and len(set(there)) == len(there) and ((), ()) in there


def right_calm(near, far, trade, fraction, thing):
    if not right_cells(near, far, trade, thing, 3):
        return False
    top, bottom = fraction
    numbers = {(dated, kept): number for dated, kept, number in thing}
    for position, number in numbers.items():
        for deed in deeds_of_trade(trade):
            if not any(
                    numbers[move] + bottom * len(naive.broken(position, move)) <= number + top
                    for move in naive.settler_moves(near, far, trade, position, deed) if move in numbers):
                return False
    return True


def right_restless(near, far, trade, fraction, thing):
    if not right_cells(near, far, trade, thing, 4):
        return False
    top, bottom = fraction
    numbers = {(dated, kept): number for dated, kept, _, number in thing}
    for dated, kept, deed, number in thing:
        for move in naive.settler_moves(near, far, trade, (dated, kept), deed):
            many = len(naive.broken((dated, kept), move))
            if move not in numbers or numbers[move] + top > number + bottom * many:
                return False
    return True


def right_paper(near, far, trade, fraction, thing):
    if type(thing) is not tuple or len(thing) != 2 or type(thing[0]) is not str:
        return False
    if thing[0] == "calm":
        return right_calm(near, far, trade, fraction, thing[1])
    return thing[0] == "restless" and right_restless(near, far, trade, fraction, thing[1])


def all_houses(seed):
    chance = random.Random(seed)
    found = houses(seed, 14)
    for _ in range(3):
        near, far = random_choosers(4, 2, chance.randrange(10 ** 6))
        found.append((near, far, random_trade(chance, 4, 1)))
    # Deeds force loans to be broken there, by which some positions come to greater means than others.
    for hard, lives, loose in (
            (837562398, (2, 1, 1, 2), ()), (854611199, (1, 2, 1, 2), (0, 1, 2, 3)), (974851282, (1, 1, 2, 1), (3,)),
            (857458561, (1, 1, 1, 2), (0, 3)), (360744044, (1, 1, 1, 1), ()),
    ):
        found.append((*random_choosers(4, 2, hard), Trade(lives, loose)))
    return found + [(LENDERS, TAKERS, Trade((1, 1, 1, 1), (0, 2))), (LENDERS, TAKERS, Trade((1, 1, 1, 1), ()))]


class MeanTest(unittest.TestCase):
    def test_worked_examples(self):
        for far in (BOTH, BEST):
            for trade, told in ((SHORT, (1, 3)), (T, (1, 4)), (Trade((2, 1), ()), (2, 5)), (U, (1, 2))):
                self.assertEqual(called(self, mean_broken, BEST, far, trade), told)
                self.assertEqual(mean_broken(far, BEST, trade), told)
        self.assertEqual(called(self, mean_broken, BOTH, BOTH, U), (0, 1))
        paper = ("restless", CELLS)
        self.assertIs(called(self, mean_holds, BEST, BOTH, U, (1, 2), paper), True)

    def test_both_kinds_hold_at_the_mean_alone(self):
        met = {}
        for near, far, trade in all_houses(511):
            top, bottom = called(self, mean_broken, near, far, trade)
            self.assertEqual(mean_broken(far, near, trade), (top, bottom))
            self.assertEqual((Fraction(top, bottom).numerator, Fraction(top, bottom).denominator), (top, bottom))
            self.assertTrue(0 < bottom <= len(naive.positions(near, far, trade)))
            met[top, bottom] = True
            for times in (1, 6, GREAT):
                fraction = (top * times, bottom * times)
                calm = judge_mean(near, far, trade, fraction)
                self.assertEqual(calm[0], "calm")
                cells = restless_cells(near, far, trade, fraction)
                for paper in (calm, ("restless", cells)):
                    self.assertTrue(right_paper(near, far, trade, fraction, paper))
                    self.assertIs(mean_holds(near, far, trade, fraction, paper), True)
            if top > 0:
                self.below_the_mean(near, far, trade, Fraction(top, bottom))
            self.above_the_mean(near, far, trade, Fraction(top, bottom))
        self.assertIn((0, 1), met)
        self.assertGreater(len(met), 6)

    def below_the_mean(self, near, far, trade, mean):
        calm = judge_mean(near, far, trade, (mean.numerator, mean.denominator))
        for less in (mean * Fraction(99, 100), mean / 2, mean - Fraction(1, GREAT), Fraction(0)):
            fraction = (less.numerator * 2, less.denominator * 2)
            paper = judge_mean(near, far, trade, fraction)
            self.assertEqual(paper[0], "restless")
            self.assertTrue(right_paper(near, far, trade, fraction, paper))
            self.assertIs(mean_holds(near, far, trade, fraction, paper), True)
            self.assertIs(mean_holds(near, far, trade, fraction, calm), False)
            rows = restless_cells(near, far, trade, fraction)
            self.assertTrue(right_restless(near, far, trade, fraction, rows))

    def above_the_mean(self, near, far, trade, mean):
        cells = restless_cells(near, far, trade, (mean.numerator, mean.denominator))
        for more in (mean + Fraction(1, 100), mean + 3, mean + Fraction(1, GREAT)):
            fraction = (more.numerator * 3, more.denominator * 3)
            paper = judge_mean(near, far, trade, fraction)
            self.assertEqual(paper[0], "calm")
            self.assertTrue(right_paper(near, far, trade, fraction, paper))
            self.assertIs(mean_holds(near, far, trade, fraction, paper), True)
            self.assertIs(restless_cells(near, far, trade, fraction), None)
            self.assertIs(mean_holds(near, far, trade, fraction, ("restless", cells)), False)

    def test_calls_by_name(self):
        for near, far, trade in all_houses(512)[::5]:
            for fraction in ((0, 1), (1, 3), (9, 2)):
                paper = called(self, judge_mean, near, far, trade, fraction)
                self.assertIs(called(self, mean_holds, near, far, trade, fraction, paper), True)
                called(self, restless_cells, near, far, trade, fraction)

    def test_most(self):
        for near, far, trade in all_houses(513)[::3]:
            many = len(naive.positions(near, far, trade))
            for function, fraction in ((mean_broken, ()), (judge_mean, ((1, 3),)), (restless_cells, ((9, 1),))):
                self.assertEqual(
                    called(self, function, near, far, trade, *fraction, most=many),
                    function(near, far, trade, *fraction),
                )
                few = many - 1
                refused(self, TooMany, {"most": few}, function, near, far, trade, *fraction, most=few)
        every = naive.every_of(3)
        great = Trade((9, 9, 4), ())
        for function, fraction in ((mean_broken, ()), (judge_mean, ((1, 3),)), (restless_cells, ((1, 3),))):
            refused(self, TooMany, {"most": 400}, function, every, every, great, *fraction)
        self.assertEqual(mean_broken(every, every, Trade((9, 9, 3), ())), (0, 1))

    def test_four_hundred_positions(self):
        """The greatest houses within the limits."""
        chance = random.Random(514)
        tried = 0
        while tried < 4:
            near, far = random_choosers(4, 2, chance.randrange(10 ** 6))
            trade = Trade((3, 3, 3, 3), random_trade(chance, 4).loose)
            if 256 < len(positions_of(near, far, trade, most=10 ** 6)) <= 400:
                mean = mean_broken(near, far, trade)
                paper = judge_mean(near, far, trade, mean)
                self.assertIs(mean_holds(near, far, trade, mean, paper), True)
                cells = restless_cells(near, far, trade, mean)
                self.assertIs(mean_holds(near, far, trade, mean, ("restless", cells)), True)
                tried += 1


class MeanPapersTest(unittest.TestCase):
    def test_greater_numbers_and_more_cells(self):
        chance = random.Random(515)
        tried = {True: 0, False: 0}
        for near, far, trade in all_houses(516)[::2]:
            top, bottom = mean_broken(near, far, trade)
            calm = judge_mean(near, far, trade, (top, bottom))[1]
            restless = restless_cells(near, far, trade, (top, bottom))
            positions = naive.positions(near, far, trade)
            deeds = deeds_of_trade(trade)
            rest = [(*position, chance.choice(deeds)) for position in positions]
            for word, cells, more in (("calm", calm, positions), ("restless", restless, rest)):
                grown = tuple((*cell[:-1], cell[-1] + GREAT) for cell in cells)
                self.assertIs(mean_holds(near, far, trade, (top, bottom), (word, grown)), True)
                for _ in range(6):
                    there = {cell[:2]: cell for cell in grown}
                    for cell in more:
                        if chance.random() < 0.2:
                            there.setdefault(cell[:2], (*cell, 2 * GREAT + chance.randrange(3)))
                    at = chance.choice(sorted(there))
                    if chance.random() < 0.7:
                        cell = there[at]
                        there[at] = (*cell[:-1], max(0, cell[-1] + chance.randint(-2 * bottom, 2 * bottom)))
                    rows = tuple(sorted(there.values()))
                    told = right_paper(near, far, trade, (top, bottom), (word, rows))
                    self.assertIs(mean_holds(near, far, trade, (top, bottom), (word, rows)), told)
                    tried[told] += 1
        self.assertGreater(min(tried.values()), 20)

    def test_cells_one_by_one(self):
        for near, far, trade in all_houses(517)[::4]:
            mean = mean_broken(near, far, trade)
            papers = [judge_mean(near, far, trade, mean), ("restless", restless_cells(near, far, trade, mean))]
            for word, cells in papers:
                for at in range(len(cells)):
                    for rows in (cells[:at] + cells[at + 1:], cells[:at + 1] + cells[at:]):
                        told = right_paper(near, far, trade, mean, (word, rows))
                        self.assertIs(mean_holds(near, far, trade, mean, (word, rows)), told)
                twice = tuple(sorted(cells + ((*cells[0][:-1], cells[0][-1] + 1),)))
                self.assertIs(mean_holds(near, far, trade, mean, (word, twice)), False)
                self.assertIs(mean_holds(near, far, trade, mean, (word, list(cells))), False)
                self.assertIs(mean_holds(near, far, trade, mean, (word, ())), False)
                if len(cells) > 1:
                    self.assertIs(mean_holds(near, far, trade, mean, (word, cells[::-1])), False)

    def test_cells_that_no_stream_comes_to(self):
        cells = tuple(sorted(CELLS + ((((0, 1),), (0,), ("day",), 9), (((1, 1),), (1,), ("day",), 9))))
        self.assertTrue(right_restless(BEST, BOTH, U, (1, 2), cells))
        self.assertIs(mean_holds(BEST, BOTH, U, (1, 2), ("restless", cells)), True)

    def test_what_is_kept_is_settled_in_each_cell(self):
        calm = judge_mean(BEST, BOTH, U, (1, 2))[1]
        for dated, kept in ((((0, 1),), ()), (((0, 1), (1, 1)), (0,)), (((0, 1), (1, 1)), (0, 1))):
            more = tuple(sorted(calm + ((dated, kept, GREAT),)))
            self.assertIs(mean_holds(BEST, BOTH, U, (1, 2), ("calm", more)), False)
            more = tuple(sorted(CELLS + ((((0, 1),), (0,), ("day",), 9), (dated, kept, ("day",), GREAT))))
            self.assertIs(mean_holds(BEST, BOTH, U, (1, 2), ("restless", more)), False)

    def test_fractions_with_common_divisors(self):
        for times in (1, 2, 3, GREAT):
            rows = tuple((*cell[:-1], cell[-1] * times) for cell in CELLS)
            self.assertIs(mean_holds(BEST, BOTH, U, (times, 2 * times), ("restless", rows)), True)
            self.assertIs(mean_holds(BEST, BOTH, U, (times + 1, 2 * times), ("restless", rows)), False)
        self.assertIs(mean_holds(BEST, BOTH, U, (2, 4), ("restless", CELLS)), False)

    def test_any_value_as_paper(self):
        for near, far, trade, fraction in (
                (BEST, BOTH, SHORT, (1, 3)), (BEST, BOTH, U, (1, 2)), (BOTH, BOTH, SHORT, (0, 5)),
                (NONE, BOTH, Trade((1, 1), (0,)), (0, 1)), (BEST, BOTH, SHORT, (2, 3)),
        ):
            papers = [judge_mean(near, far, trade, fraction)]
            cells = restless_cells(near, far, trade, fraction)
            papers += [("restless", cells)] if cells is not None else []
            for thing in any_values() + papers + [worse for paper in papers for worse in spoilt(paper)]:
                told = right_paper(near, far, trade, fraction, thing)
                self.assertIs(mean_holds(near, far, trade, fraction, thing), told, thing)


class ErrorsTest(unittest.TestCase):
    def test_other_offers_ahead_of_all_else(self):
        three, one = by_lists(3, ()), Trade((1,), ())
        for near, far, trade in ((BEST, three, T), (three, BEST, T), (BEST, BOTH, one), (three, three, T)):
            refused(self, OtherOffers, {}, mean_broken, near, far, trade, most=0)
            refused(self, OtherOffers, {}, mean_broken, near=near, far=far, trade=trade)
            refused(self, OtherOffers, {}, judge_mean, near, far, trade, (1, 2), most=0)
            refused(self, OtherOffers, {}, restless_cells, near, far, trade, (1, 2), most=0)
            refused(self, OtherOffers, {}, mean_holds, near, far, trade, (1, 2), None)


if __name__ == "__main__":
    unittest.main()
