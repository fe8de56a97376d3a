"""[9.4]: relays.py."""

import random
import unittest

import naive
from samples import (
    BEST, NONE, T, TWO, U, any_values, called, every_dated, is_same, random_choosers, refused, spoilt,
)
from test_offices import HANDS, no_shares, right_shares
from test_slips import WORDS, cases, paper_of, right_paper, unlike

from offerstands.errors import BadDated, BadRelay, BadShares, OtherOffers
from offerstands.lists import by_lists
from offerstands.relays import (
    does_relay_tell, is_relay, judge_relay, least_relay, marks_along, marks_in_row, relay_holds,
)
from offerstands.trades import Trade

ROW = (
    ((0, (), 0), (0, ((0, 1),), 1), (0, ((0, 2),), 1)),
    ((0, (), 0), (0, ((1, 1),), 2), (0, ((1, 2),), 2), (1, (), 1), (1, ((1, 1),), 2), (1, ((1, 2),), 2)),
)


def right_relay(trade, shares, thing):
    if type(thing) is not tuple or len(thing) != len(shares):
        return False
    marks = [0]
    for share, table in zip(shares, thing):
        heads = sorted((mark, view) for mark in marks for view in naive.views(trade, share))
        if type(table) is not tuple or len(table) != len(heads):
            return False
        for head, row in zip(heads, table):
            if type(row) is not tuple or len(row) != 3 or not is_same(row[:2], head):
                return False
            if type(row[2]) is not int or row[2] < 0:
                return False
        marks = sorted({after for _, _, after in table})
    return True


def random_relay(chance, trade, shares, many):
    relay, marks = [], [0]
    for share in shares:
        relay.append(tuple((mark, view, chance.randrange(many)) for mark in marks for view in naive.views(trade, share)))
        marks = sorted({after for _, _, after in relay[-1]})
    return tuple(relay)


def last_marks(trade, shares, relay):
    return {dated: naive.marks_along(shares, relay, dated)[-1] for dated in every_dated(trade)}


def so_far(trade, shares, at):
    return naive.views(trade, [x for share in shares[:at + 1] for x in share])


class RelaysTest(unittest.TestCase):
    def test_worked_examples(self):
        self.assertEqual(called(self, marks_in_row, BEST, T, HANDS, "now"), (2, 3))
        self.assertEqual(called(self, marks_in_row, BEST, T, HANDS, "on"), (3, 6))
        self.assertEqual(called(self, least_relay, BEST, T, HANDS, "now"), ROW)
        self.assertIs(called(self, is_relay, T, HANDS, ROW), True)
        self.assertEqual(called(self, marks_along, T, HANDS, ROW, ((0, 1), (1, 2))), (1, 2))
        self.assertIs(called(self, does_relay_tell, BEST, T, HANDS, "now", ROW), True)
        tells = ("tells", ((0, ()), (1, (0,)), (2, (1,))))
        self.assertEqual(called(self, judge_relay, BEST, T, HANDS, "now", ROW), tells)
        self.assertIs(called(self, relay_holds, BEST, T, HANDS, "now", ROW, tells), True)

    def test_fewest_as_the_document_says(self):
        for chooser, trade, shares, word in cases(621):
            told = [unlike(chooser, trade, word, so_far(trade, shares, at)) for at in range(len(shares))]
            self.assertEqual(called(self, marks_in_row, chooser, trade, shares, word), tuple(map(len, told)))
            relay = called(self, least_relay, chooser, trade, shares, word)
            self.assertTrue(right_relay(trade, shares, relay))
            self.assertIs(does_relay_tell(chooser, trade, shares, word, relay), True)
            for dated in every_dated(trade):
                marks, some = [], ()
                for share, row in zip(shares, told):
                    some += share
                    marks.append(row.index(naive.told(chooser, trade, word, naive.view(some, dated))))
                self.assertEqual(marks_along(trade, shares, relay, dated), tuple(marks))
            written = tuple(len({after for _, _, after in table}) for table in relay)
            self.assertEqual(written, marks_in_row(chooser, trade, shares, word))

    def test_relays_with_fewer_marks_fail(self):
        chance = random.Random(622)
        for chooser, trade, shares, word in cases(623):
            needed = marks_in_row(chooser, trade, shares, word)
            for many in range(1, max(needed) + 1):
                relay = random_relay(chance, trade, shares, many)
                written = [len({after for _, _, after in table}) for table in relay]
                if any(few < right for few, right in zip(written, needed)):
                    self.assertIs(does_relay_tell(chooser, trade, shares, word, relay), False)

    def test_judged_as_the_document_says(self):
        chance = random.Random(624)
        met = {"tells": 0, "fails": 0}
        for chooser, trade, shares, word in cases(625):
            relays = [random_relay(chance, trade, shares, many) for many in (1, 2, 2000)]
            relays.append(least_relay(chooser, trade, shares, word))
            for relay in relays:
                self.assertIs(is_relay(trade, shares, relay), True)
                marks = last_marks(trade, shares, relay)
                paper = judge_relay(chooser, trade, shares, word, relay)
                self.assertTrue(right_paper(chooser, trade, word, marks, paper))
                self.assertIs(relay_holds(chooser, trade, shares, word, relay, paper), True)
                tells = paper_of(chooser, trade, word, marks) is not None
                self.assertIs(does_relay_tell(chooser, trade, shares, word, relay), tells)
                self.assertEqual(paper[0], "tells" if tells else "fails")
                met[paper[0]] += 1
                for dated in every_dated(trade)[::3]:
                    self.assertEqual(
                        marks_along(trade, shares, relay, dated), naive.marks_along(shares, relay, dated))
        self.assertGreater(min(met.values()), 50)

    def test_great_marks_and_all_marks_alike(self):
        for mark in (0, 5, 10 ** 39):
            relay = (tuple((0, view, mark) for view in naive.views(T, (0,))),
                     tuple((mark, view, mark) for view in naive.views(T, (1,))))
            self.assertIs(called(self, is_relay, T, HANDS, relay), True)
            self.assertEqual(called(self, marks_along, T, HANDS, relay, ((1, 1),)), (mark, mark))
            self.assertIs(called(self, does_relay_tell, BEST, T, HANDS, "now", relay), False)
            self.assertIs(called(self, does_relay_tell, NONE, T, HANDS, "on", relay), True)
            self.assertEqual(judge_relay(NONE, T, HANDS, "on", relay), ("tells", ((mark, ()),)))

    def test_all_pairs_of_dated_sets_as_papers(self):
        for word in WORDS:
            marks, right = last_marks(T, HANDS, ROW), 0
            for one in every_dated(T):
                for other in every_dated(T):
                    told = right_paper(BEST, T, word, marks, ("fails", one, other))
                    self.assertIs(relay_holds(BEST, T, HANDS, word, ROW, ("fails", one, other)), told)
                    right += told
            self.assertEqual(right == 0, word == "now")

    def test_any_value_as_paper(self):
        for word in WORDS:
            paper = judge_relay(BEST, T, HANDS, word, ROW)
            marks, right = last_marks(T, HANDS, ROW), 0
            for thing in [paper, *spoilt(paper), *any_values()]:
                told = right_paper(BEST, T, word, marks, thing)
                self.assertIs(relay_holds(BEST, T, HANDS, word, ROW, thing), told, thing)
                right += told
            self.assertGreater(right, 0)

    def test_four_offers_with_lives_of_three_days(self):
        trade = Trade((3, 3, 3, 3), (1,))
        for chooser in random_choosers(4, 2, 626):
            for shares in (((2,), (0,), (3,), (1,)), ((0, 1, 2, 3),), ((1, 3), (0, 2))):
                relay = least_relay(chooser, trade, shares, "on")
                paper = judge_relay(chooser, trade, shares, "on", relay)
                self.assertEqual(paper[0], "tells")
                self.assertIs(relay_holds(chooser, trade, shares, "on", relay, paper), True)


class IsRelayTest(unittest.TestCase):
    def test_spoilt_relays(self):
        for chooser, trade, shares in (
                (BEST, T, HANDS), (BEST, U, ((1,), (0,))), (NONE, T, ((0, 1),)),
                (TWO, Trade((1, 1, 1), ()), ((2,), (0,), (1,))),
        ):
            relay = least_relay(chooser, trade, shares, "now")
            right = 0
            for thing in [relay, *spoilt(relay), *any_values()]:
                told = right_relay(trade, shares, thing)
                self.assertIs(is_relay(trade, shares, thing), told, thing)
                right += told
                if not told:
                    refused(self, BadRelay, {"thing": thing}, marks_along, trade, shares, thing, None)
            self.assertGreater(right, 3)

    def test_rows_one_by_one(self):
        one, other = ROW
        for wrong in (
                (one,), (other, one), (one, other, other), (one[1:], other), (one, other[1:]), (one, other[:3]),
                (one, other[::-1]), (one, other[3:] + other[:3]), (one, (*other, (2, (), 0))),
                (one, tuple((mark + 1, view, after) for mark, view, after in other)),
                (((1, (), 0), *one[1:]), other), (((0, (), 2), *one[1:]), other), (((0, (), True), *one[1:]), other),
                (((False, (), 0), *one[1:]), other), (((0, (), -1), *one[1:]), other), ((one[0], *one), other),
        ):
            self.assertIs(is_relay(T, HANDS, wrong), False, wrong)
        # The table behind goes by the marks that are written, whichever they are.
        spread = tuple((mark, view, 9 if after == 1 else after) for mark, view, after in one)
        moved = tuple((9 if mark == 1 else mark, view, after) for mark, view, after in other)
        self.assertIs(is_relay(T, HANDS, (spread, moved)), True)
        self.assertIs(is_relay(T, HANDS, (spread, other)), False)
        self.assertEqual(marks_along(T, HANDS, (spread, moved), ((0, 1),)), (9, 1))


class ErrorsTest(unittest.TestCase):
    def test_other_offers_ahead_of_all_else(self):
        three = by_lists(3, ())
        for chooser, trade in ((three, T), (BEST, Trade((1,), ()))):
            for function in (marks_in_row, least_relay):
                refused(self, OtherOffers, {}, function, chooser, trade, None, "now")
            for function in (does_relay_tell, judge_relay):
                refused(self, OtherOffers, {}, function, chooser, trade, None, "on", None)
                refused(self, OtherOffers, {}, function, chooser=chooser, trade=trade, shares=0, word="on", relay=0)
            refused(self, OtherOffers, {}, relay_holds, chooser, trade, None, "on", None, None)

    def test_bad_shares(self):
        for value in no_shares(2):
            if right_shares(2, value):
                continue
            told = {"thing": value}
            refused(self, BadShares, told, is_relay, T, value, None)
            refused(self, BadShares, told, marks_along, T, value, None, None)
            for function in (marks_in_row, least_relay):
                refused(self, BadShares, told, function, BEST, T, value, "now")
            for function in (does_relay_tell, judge_relay):
                refused(self, BadShares, told, function, BEST, T, value, "on", None)
            refused(self, BadShares, told, relay_holds, BEST, T, value, "now", ROW, None)

    def test_bad_relay_and_bad_dated(self):
        for thing in [*spoilt(ROW), *any_values()]:
            if not right_relay(T, HANDS, thing):
                for function in (does_relay_tell, judge_relay):
                    refused(self, BadRelay, {"thing": thing}, function, BEST, T, HANDS, "now", thing)
        refused(self, BadRelay, {"thing": 0}, marks_along, T, HANDS, 0, ((0, 3),))
        for value in any_values() + [((0, 3),), ((1, 1), (0, 1))]:
            if not any(is_same(value, dated) for dated in every_dated(T)):
                refused(self, BadDated, {"thing": value}, marks_along, T, HANDS, ROW, value)


if __name__ == "__main__":
    unittest.main()
