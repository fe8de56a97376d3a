"""[9.2], [9.3]: slips.py."""

import random
import unittest

import naive
from samples import (
    BEST, BOTH, NONE, T, TWO, U, any_values, called, every_chooser, every_dated, is_same, random_choosers,
    random_trade, refused, spoilt,
)
from test_offices import HANDS, NOW, no_shares, random_office, right_office, right_shares

from offerstands.errors import BadOffice, BadShares, OtherOffers
from offerstands.lists import by_lists, is_apart
from offerstands.skylines import skylines
from offerstands.slips import (
    does_office_tell, fewest_marks_hold, judge_fewest_marks, judge_office, least_office, marks_needed, office_holds,
    told_by_slip,
)
from offerstands.trades import Trade

WORDS = ("now", "on")
THREE = Trade((1, 2, 1), (2,))


def cases(seed):
    """Choosers, trades, shares, words: those of two offers, and random ones."""
    chance = random.Random(seed)
    rows = [(chooser, trade) for chooser in (BEST, BOTH, NONE) for trade in (T, U, Trade((1, 2), (0,)))]
    for offers in (1, 2, 3, 3, 3, 4):
        rows += [(chooser, random_trade(chance, offers, 2)) for chooser in random_choosers(offers, 2, seed + offers)]
    for chooser, trade in rows:
        shares = naive.every_shares(len(trade.lives))
        for share in shares if len(shares) <= 3 else chance.sample(shares, 3):
            for word in WORDS:
                yield chooser, trade, share, word


def unlike(chooser, trade, word, dated):
    """All that is told of some dated sets, in order."""
    found = {naive.told(chooser, trade, word, one) for one in dated}
    return sorted(found, key=lambda row: (len(row), row))


def paper_of(chooser, trade, word, marks):
    """The paper "tells" for the marks of all dated sets, None if there is none."""
    rows = {}
    for dated, mark in marks.items():
        rows.setdefault(mark, set()).add(naive.told(chooser, trade, word, dated))
    if max(len(row) for row in rows.values()) > 1:
        return None
    return ("tells", tuple(sorted((mark, *row) for mark, row in rows.items())))


def right_paper(chooser, trade, word, marks, thing):
    if type(thing) is not tuple or not thing or type(thing[0]) is not str:
        return False
    if thing[0] == "tells":
        right = paper_of(chooser, trade, word, marks)
        return right is not None and is_same(thing, right)
    if thing[0] != "fails" or len(thing) != 3:
        return False
    if not all(any(is_same(part, dated) for dated in marks) for part in thing[1:]):
        return False
    one, other = [naive.told(chooser, trade, word, dated) for dated in thing[1:]]
    return marks[thing[1]] == marks[thing[2]] and one != other


def slips_of(trade, shares, office):
    return {dated: naive.slip(shares, office, dated) for dated in every_dated(trade)}


def right_fewest(chooser, trade, shares, word, thing):
    if type(thing) is not tuple or len(thing) != 3 or not is_same(thing[0], "fewest"):
        return False
    _, office, bars = thing
    if not right_office(trade, shares, office) or type(bars) is not tuple or len(bars) != len(shares):
        return False
    if paper_of(chooser, trade, word, slips_of(trade, shares, office)) is None:
        return False
    for share, rows, bar in zip(shares, office, bars):
        if type(bar) is not tuple or len(bar) != len({mark for _, mark in rows}):
            return False
        if not all(any(is_same(part, view) for view in naive.views(trade, share)) for part in bar):
            return False
        if list(bar) != sorted(set(bar), key=lambda row: (len(row), row)):
            return False
        if len(unlike(chooser, trade, word, bar)) != len(bar):
            return False
    return True


class SlipsTest(unittest.TestCase):
    def test_worked_examples(self):
        self.assertEqual(called(self, marks_needed, BEST, T, HANDS, "now"), (2, 2))
        self.assertEqual(called(self, marks_needed, BEST, T, HANDS, "on"), (3, 3))
        self.assertEqual(called(self, marks_needed, BEST, T, ((0, 1),), "now"), (3,))
        self.assertEqual(called(self, marks_needed, BEST, T, ((0, 1),), "on"), (6,))
        self.assertEqual(called(self, least_office, BEST, T, HANDS, "now"), NOW)
        self.assertIs(called(self, does_office_tell, BEST, T, HANDS, "now", NOW), True)
        self.assertIs(called(self, does_office_tell, BEST, T, HANDS, "on", NOW), False)
        self.assertEqual(called(self, judge_office, BEST, T, HANDS, "on", NOW)[0], "fails")
        fails = ("fails", ((0, 1),), ((0, 2),))
        self.assertIs(called(self, office_holds, BEST, T, HANDS, "on", NOW, fails), True)
        self.assertIs(called(self, office_holds, BEST, T, HANDS, "now", NOW, fails), False)
        self.assertEqual(called(self, told_by_slip, BEST, T, HANDS, "now", NOW, (1, 1)), (1,))

    def test_fewest_marks_as_the_document_says(self):
        for chooser, trade, shares, word in cases(611):
            told = [unlike(chooser, trade, word, naive.views(trade, share)) for share in shares]
            self.assertEqual(called(self, marks_needed, chooser, trade, shares, word), tuple(map(len, told)))
            office = called(self, least_office, chooser, trade, shares, word)
            right = tuple(
                tuple((view, row.index(naive.told(chooser, trade, word, view))) for view in naive.views(trade, share))
                for share, row in zip(shares, told))
            self.assertEqual(office, right)
            self.assertIs(does_office_tell(chooser, trade, shares, word, office), True)
            self.assertEqual(judge_office(chooser, trade, shares, word, office),
                             paper_of(chooser, trade, word, slips_of(trade, shares, office)))

    def test_all_offices_with_fewer_marks_fail(self):
        """Each office of two hands in which one hand uses fewer marks than needed keeps no apart."""
        trade = Trade((1, 2), ())
        for chooser in every_chooser(2):
            if not is_apart(chooser):
                continue
            for word in WORDS:
                needed = marks_needed(chooser, trade, HANDS, word)
                for one in range(2 ** 2):
                    for other in range(3 ** 3):
                        office = (tuple((view, one // 2 ** at % 2) for at, view in enumerate(naive.views(trade, (0,)))),
                                  tuple((view, other // 3 ** at % 3) for at, view in enumerate(naive.views(trade, (1,)))))
                        tells = does_office_tell(chooser, trade, HANDS, word, office)
                        right = paper_of(chooser, trade, word, slips_of(trade, HANDS, office)) is not None
                        self.assertIs(tells, right)
                        used = tuple(len({mark for _, mark in rows}) for rows in office)
                        self.assertFalse(tells and any(few < many for few, many in zip(used, needed)))

    def test_judged_as_the_document_says(self):
        chance = random.Random(612)
        met = {"tells": 0, "fails": 0}
        for chooser, trade, shares, word in cases(613):
            offices = [random_office(chance, trade, shares, many) for many in (1, 2, 4, 2000)]
            offices.append(tuple(tuple((view, 7 * at) for at, view in enumerate(naive.views(trade, share)))
                                 for share in shares))
            for office in offices:
                marks = slips_of(trade, shares, office)
                paper = judge_office(chooser, trade, shares, word, office)
                self.assertTrue(right_paper(chooser, trade, word, marks, paper))
                self.assertIs(office_holds(chooser, trade, shares, word, office, paper), True)
                tells = paper_of(chooser, trade, word, marks) is not None
                self.assertEqual(paper[0], "tells" if tells else "fails")
                self.assertIs(does_office_tell(chooser, trade, shares, word, office), tells)
                met[paper[0]] += 1
        self.assertGreater(min(met.values()), 50)

    def test_on_is_now_and_more(self):
        for chooser, trade, shares, _ in cases(614):
            self.assertIs(does_office_tell(
                chooser, trade, shares, "now", least_office(chooser, trade, shares, "on")), True)

    def test_one_hand_needs_a_mark_for_each_skyline(self):
        for chooser, trade, _, _ in cases(615):
            whole = (tuple(range(len(trade.lives))),)
            self.assertEqual(marks_needed(chooser, trade, whole, "on"), (len(skylines(chooser, trade)),))

    def test_all_pairs_of_dated_sets_as_papers(self):
        """Whichever two dated sets show that an office does not tell, not the first ones alone."""
        for office in (NOW, ((((), 0), (((0, 1),), 0), (((0, 2),), 0)), NOW[1])):
            for word in WORDS:
                marks, right = slips_of(T, HANDS, office), 0
                for one in every_dated(T):
                    for other in every_dated(T):
                        told = right_paper(BEST, T, word, marks, ("fails", one, other))
                        self.assertIs(office_holds(BEST, T, HANDS, word, office, ("fails", one, other)), told)
                        right += told
                self.assertEqual(right == 0, (office, word) == (NOW, "now"))

    def test_any_value_as_paper(self):
        for word, office in (("now", NOW), ("on", NOW), ("on", least_office(BEST, T, HANDS, "on"))):
            paper = judge_office(BEST, T, HANDS, word, office)
            marks, right = slips_of(T, HANDS, office), 0
            for thing in [paper, *spoilt(paper), *any_values()]:
                told = right_paper(BEST, T, word, marks, thing)
                self.assertIs(office_holds(BEST, T, HANDS, word, office, thing), told, thing)
                right += told
            self.assertGreater(right, 0)


class ToldBySlipTest(unittest.TestCase):
    def test_slips_of_dated_sets(self):
        for chooser, trade, shares, word in cases(616):
            office = least_office(chooser, trade, shares, word)
            for dated in every_dated(trade):
                told = naive.told(chooser, trade, word, dated)
                slip = naive.slip(shares, office, dated)
                self.assertEqual(told_by_slip(chooser, trade, shares, word, office, slip), told)

    def test_slips_of_no_dated_set(self):
        spread = ((((), 3), (((0, 1),), 1), (((0, 2),), 10 ** 39)), (((), 0), (((1, 1),), 1), (((1, 2),), 7)))
        for office in (NOW, spread, least_office(BEST, T, HANDS, "on")):
            word = "now" if office == NOW else "on"
            right = [naive.slip(HANDS, office, dated) for dated in every_dated(T)]
            made = [worse for slip in right for worse in spoilt(slip)]
            made += [(0, 0, 0), (1,), 1, [1, 1], (True, 1), (1, True), (False, False), ("1", "1"), (2, 2), (-1, 0)]
            for slip in made + any_values():
                there = [dated for dated in every_dated(T) if is_same(naive.slip(HANDS, office, dated), slip)]
                told = naive.told(BEST, T, word, there[0]) if there else None
                self.assertEqual(told_by_slip(BEST, T, HANDS, word, office, slip), told, slip)
        self.assertIs(called(self, told_by_slip, BEST, T, HANDS, "now", NOW, (True, 1)), None)
        self.assertIs(called(self, told_by_slip, BEST, T, HANDS, "now", NOW, (2, 1)), None)


class FewestTest(unittest.TestCase):
    def test_papers_that_are_made(self):
        for chooser, trade, shares, word in cases(617):
            paper = called(self, judge_fewest_marks, chooser, trade, shares, word)
            self.assertTrue(right_fewest(chooser, trade, shares, word, paper))
            self.assertIs(called(self, fewest_marks_hold, chooser, trade, shares, word, paper), True)

    def test_other_bars_and_other_numbers(self):
        """Bars of other views, and offices with as few marks under other numbers, are as right."""
        chance = random.Random(618)
        tried = {True: 0, False: 0}
        for chooser, trade, shares, word in cases(619):
            _, office, bars = judge_fewest_marks(chooser, trade, shares, word)
            for _ in range(6):
                names = chance.sample(range(3000), 300)
                marks = tuple(tuple((view, names[mark]) for view, mark in rows) for rows in office)
                others = []
                for share, bar in zip(shares, bars):
                    views = naive.views(trade, share)
                    chosen = [chance.choice([view for view in views if naive.told(chooser, trade, word, view) == told])
                              for told in unlike(chooser, trade, word, bar)]
                    if chance.random() < 0.15:
                        chosen[chance.randrange(len(chosen))] = chance.choice(views)
                    others.append(tuple(sorted(chosen, key=lambda row: (len(row), row))))
                for thing in (("fewest", marks, tuple(others)), ("fewest", marks, bars), ("fewest", office, tuple(others))):
                    told = right_fewest(chooser, trade, shares, word, thing)
                    self.assertIs(fewest_marks_hold(chooser, trade, shares, word, thing), told)
                    tried[told] += 1
        self.assertGreater(min(tried.values()), 50)

    def test_more_marks_than_needed(self):
        spread = ((((), 0), (((0, 1),), 1), (((0, 2),), 2)), NOW[1])
        _, _, bars = judge_fewest_marks(BEST, T, HANDS, "now")
        self.assertIs(fewest_marks_hold(BEST, T, HANDS, "now", ("fewest", spread, bars)), False)
        longer = (((), ((0, 1),), ((0, 2),)), bars[1])
        self.assertIs(fewest_marks_hold(BEST, T, HANDS, "now", ("fewest", spread, longer)), False)
        self.assertIs(fewest_marks_hold(BEST, T, HANDS, "on", ("fewest", least_office(BEST, T, HANDS, "on"), (
            longer[0], ((), ((1, 1),), ((1, 2),))))), True)

    def test_an_office_that_does_not_tell(self):
        swapped = ((((), 0), (((0, 1),), 1), (((0, 2),), 0)), NOW[1])
        _, _, bars = judge_fewest_marks(BEST, T, HANDS, "now")
        self.assertIs(fewest_marks_hold(BEST, T, HANDS, "now", ("fewest", NOW, bars)), True)
        self.assertIs(fewest_marks_hold(BEST, T, HANDS, "now", ("fewest", swapped, bars)), False)

    def test_any_value_as_paper(self):
        for chooser, trade, shares, word in (
                (BEST, T, HANDS, "now"), (BEST, T, ((1,), (0,)), "on"), (NONE, U, ((0, 1),), "on"),
                (TWO, Trade((1, 1, 1), (0,)), ((2,), (0, 1)), "on"),
        ):
            paper = judge_fewest_marks(chooser, trade, shares, word)
            right = 0
            for thing in [paper, *spoilt(paper), *any_values()]:
                told = right_fewest(chooser, trade, shares, word, thing)
                self.assertIs(fewest_marks_hold(chooser, trade, shares, word, thing), told, thing)
                right += told
            self.assertGreater(right, 0)

    def test_four_offers_with_lives_of_three_days(self):
        trade = Trade((3, 3, 3, 3), (1,))
        for chooser in random_choosers(4, 2, 620):
            for shares in (((2,), (0,), (3,), (1,)), ((0, 1, 2, 3),), ((1, 3), (0, 2))):
                paper = judge_fewest_marks(chooser, trade, shares, "on")
                self.assertIs(fewest_marks_hold(chooser, trade, shares, "on", paper), True)
                judged = judge_office(chooser, trade, shares, "on", paper[1])
                self.assertEqual(judged[0], "tells")
                self.assertIs(office_holds(chooser, trade, shares, "on", paper[1], judged), True)


class ErrorsTest(unittest.TestCase):
    def test_other_offers_ahead_of_all_else(self):
        three = by_lists(3, ())
        for chooser, trade in ((three, T), (BEST, Trade((1,), ()))):
            refused(self, OtherOffers, {}, marks_needed, chooser, trade, None, "now")
            refused(self, OtherOffers, {}, least_office, chooser, trade, (), "on")
            refused(self, OtherOffers, {}, judge_fewest_marks, chooser, trade, None, "now")
            refused(self, OtherOffers, {}, fewest_marks_hold, chooser, trade, None, "now", None)
            for function in (does_office_tell, judge_office):
                refused(self, OtherOffers, {}, function, chooser, trade, None, "now", None)
                refused(self, OtherOffers, {}, function, chooser=chooser, trade=trade, shares=0, word="on", office=0)
            refused(self, OtherOffers, {}, office_holds, chooser, trade, None, "on", None, None)
            refused(self, OtherOffers, {}, told_by_slip, chooser, trade, None, "on", None, None)

    def test_bad_shares(self):
        for value in no_shares(2):
            if right_shares(2, value):
                continue
            told = {"thing": value}
            for function in (marks_needed, least_office, judge_fewest_marks):
                refused(self, BadShares, told, function, BEST, T, value, "now")
            for function in (does_office_tell, judge_office):
                refused(self, BadShares, told, function, BEST, T, value, "on", None)
            refused(self, BadShares, told, fewest_marks_hold, BEST, T, value, "on", None)
            refused(self, BadShares, told, office_holds, BEST, T, value, "now", NOW, None)
            refused(self, BadShares, told, told_by_slip, BEST, T, value, "now", NOW, (0, 0))

    def test_bad_office(self):
        for thing in [*spoilt(NOW), *any_values()]:
            if not right_office(T, HANDS, thing):
                for function in (does_office_tell, judge_office):
                    refused(self, BadOffice, {"thing": thing}, function, BEST, T, HANDS, "now", thing)


if __name__ == "__main__":
    unittest.main()
