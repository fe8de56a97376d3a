"""[0.2], [1.1], [1.6] texts: choosers.py."""

import re
import unittest

import naive
from samples import (
    BEST, BOTH, NONE, T, TWO, any_values, called, every_chooser, freeze, is_same, random_choosers, refused, spoilt,
)

from offerstands.choosers import Chooser, all_sets, is_set, together
from offerstands.errors import BadChooser, BadSet, BadText, OfferError
from offerstands.making import either_of


def right_set(offers, thing):
    """Whether a value is a set, told otherwise than in the program."""
    return any(is_same(thing, some) for some in naive.sets_of(offers))


def bad_line(text):
    """The line that the document tells for a text of no chooser."""
    lines = text.split("\n")
    if not re.fullmatch("chooser [1-6]", lines[0]):
        return 1
    sets = naive.sets_of(int(lines[0][8:]))
    for number, some in enumerate(sets, start=2):
        told = [" ".join(map(str, part)) or "-" for part in naive.parts_of(some)]
        if lines[number - 1:number] not in [[word] for word in told]:
            return number
    return len(sets) + 2


def samples():
    return [NONE, BEST, BOTH, TWO, *random_choosers(1, 2, 1), *random_choosers(5, 4, 2), *random_choosers(6, 3, 3)]


class SetsTest(unittest.TestCase):
    def test_all_sets_are_in_order(self):
        self.assertEqual(called(self, all_sets, 1), ((), (0,)))
        self.assertEqual(
            called(self, all_sets, 3), ((), (0,), (1,), (2,), (0, 1), (0, 2), (1, 2), (0, 1, 2)))
        for offers in range(1, 7):
            self.assertEqual(all_sets(offers), tuple(naive.sets_of(offers)))

    def test_is_set(self):
        for offers in (1, 2, 3, 6):
            for some in naive.sets_of(offers):
                self.assertIs(called(self, is_set, offers, some), True)
            for thing in any_values():
                self.assertIs(called(self, is_set, offers, thing), right_set(offers, thing))
            for thing in spoilt((0, 1)):
                self.assertIs(is_set(offers, thing), right_set(offers, thing))
        self.assertIs(is_set(2, (2,)), False)
        self.assertIs(is_set(6, (5,)), True)

    def test_together(self):
        self.assertEqual(called(self, together, (0, 2), (1, 2)), (0, 1, 2))
        for one in naive.sets_of(4):
            for other in naive.sets_of(4):
                self.assertEqual(together(one, other), naive.union(one, other))


class ChooserTest(unittest.TestCase):
    def test_worked_example(self):
        self.assertEqual(TWO.picks, ((), (0,), (1,), (2,), (0, 1), (0, 2), (1, 2), (0, 2)))
        lines = ["chooser 3", "-", "0", "1", "2", "0 1", "0 2", "1 2", "0 2"]
        self.assertEqual(str(TWO), "\n".join(lines))

    def test_attributes_length_and_parameters(self):
        for chooser in samples():
            self.assertEqual(len(chooser), chooser.offers)
            again = Chooser(picks=chooser.picks, offers=chooser.offers)
            self.assertTrue(again == chooser)
            self.assertEqual((again.offers, again.picks), (chooser.offers, chooser.picks))

    def test_equality(self):
        for one in samples():
            for other in samples():
                alike = (one.offers, one.picks) == (other.offers, other.picks)
                self.assertIs(one == other, alike)
                self.assertIs(one != other, not alike)
        for value in any_values():
            alike = isinstance(value, Chooser) and value.picks == TWO.picks
            self.assertIs(TWO == value, alike)
            self.assertIs(value == TWO, alike)
            self.assertIs(TWO != value, not alike)
        self.assertFalse(T == BEST)

    def test_bad_offers_come_first(self):
        for value in any_values() + [7, 0, -1, True]:
            if value.__class__ is int and 1 <= value <= 6:
                continue
            refused(self, BadChooser, {"part": "offers"}, Chooser, value, BEST.picks)
            refused(self, BadChooser, {"part": "offers"}, Chooser, offers=value, picks=None)

    def test_bad_picks(self):
        for value in any_values():
            if isinstance(value, tuple) and len(value) in (2, 4):
                continue
            refused(self, BadChooser, {"part": "picks"}, Chooser, 2, value)
            refused(self, BadChooser, {"part": "picks"}, Chooser, 1, value)
        refused(self, BadChooser, {"part": "picks"}, Chooser, 2, list(BEST.picks))
        refused(self, BadChooser, {"part": "picks"}, Chooser, 2, BEST.picks + ((),))
        refused(self, BadChooser, {"part": "picks"}, Chooser, 2, BEST.picks[:3])

    def test_the_first_bad_item_is_told(self):
        for at, some in enumerate(all_sets(3)):
            for value in any_values() + list(spoilt(TWO.picks[at])):
                picks = TWO.picks[:at] + (value,) + TWO.picks[at + 1:]
                if right_set(3, value) and set(value) <= set(some):
                    self.assertEqual(Chooser(3, picks).picks, picks)
                else:
                    refused(self, BadChooser, {"part": at}, Chooser, 3, picks)
        refused(self, BadChooser, {"part": 1}, Chooser, 2, ((), (1,), (0,), None))
        refused(self, BadChooser, {"part": 2}, Chooser, 2, ((), (0,), (0,), None))
        refused(self, BadChooser, {"part": 3}, Chooser, 2, ((), (0,), (1,), (1, 0)))
        refused(self, BadChooser, {"part": 3}, Chooser, 2, ((), (0,), (1,), (False, 1)))

    def test_taken(self):
        for chooser in samples():
            for some, part in naive.picks_of(chooser).items():
                self.assertEqual(called(self, chooser.taken, some), part)
        for value in any_values() + list(spoilt((0, 2))):
            if not right_set(3, value):
                refused(self, BadSet, {"thing": value}, TWO.taken, value)
                refused(self, BadSet, {"thing": value}, TWO.taken, some=value)
        refused(self, BadSet, {"thing": (3,)}, TWO.taken, (3,))

    def test_the_results_of_calls_change_nothing(self):
        before = freeze(TWO)
        str(TWO), len(TWO), TWO.taken((0, 1)), TWO == BEST
        self.assertEqual(freeze(TWO), before)


class TextTest(unittest.TestCase):
    def test_read_back(self):
        for chooser in samples() + every_chooser(2):
            text = str(chooser)
            self.assertEqual(len(text.split("\n")), 1 + 2 ** len(chooser))
            self.assertTrue(Chooser.read(text) == chooser)
            self.assertTrue(called(self, Chooser.read, text) == Chooser.read(text))

    def test_no_string(self):
        for value in any_values():
            if not isinstance(value, str):
                refused(self, BadText, {"line": 0}, Chooser.read, value)
                refused(self, BadText, {"line": 0}, Chooser.read, text=value)
            else:
                refused(self, BadText, {"line": 1}, Chooser.read, value)

    def test_first_line(self):
        rest = "\n" + str(BEST).partition("\n")[2]
        heads = [
            "chooser", "chooser 0", "chooser 7", "chooser 02", "chooser +2", "chooser -2", "chooser  2", " chooser 2",
            "chooser 2 ", "Chooser 2", "chooser2", "trade 2", "chooser 2.", "chooser two", "", "chooser 2 2",
        ]
        for head in heads:
            refused(self, BadText, {"line": 1}, Chooser.read, head + rest)
            refused(self, BadText, {"line": 1}, Chooser.read, head)
        refused(self, BadText, {"line": 1}, Chooser.read, "\n" + str(BEST))

    def test_each_line_put_otherwise(self):
        lines = str(TWO).split("\n")
        for at in range(1, len(lines)):
            for worse in ("", " ", "--", "- ", "00", "0  1", "0 1 ", " 0", "2 1", "0 0", "3", "- 0", "x", "+0", "-0",
                          "0,1"):
                text = "\n".join(lines[:at] + [worse] + lines[at + 1:])
                refused(self, BadText, {"line": at + 1}, Chooser.read, text)
            later = "\n".join(lines[:at] + ["x"] + ["y"] * (len(lines) - at - 1) + ["z"])
            refused(self, BadText, {"line": at + 1}, Chooser.read, later)

    def test_lines_left_out_added_or_doubled(self):
        lines = str(TWO).split("\n")
        for many in range(1, len(lines)):
            refused(self, BadText, {"line": many + 1}, Chooser.read, "\n".join(lines[:many]))
        for end in ("\n", "\n-", "\n\n\n", "\n0 2\n0"):
            refused(self, BadText, {"line": len(lines) + 1}, Chooser.read, str(TWO) + end)
        doubled = "\n".join(lines[:5] + lines[4:])
        refused(self, BadText, {"line": 6}, Chooser.read, doubled)
        refused(self, BadText, {"line": 2}, Chooser.read, str(TWO).replace("\n", "\n\n"))

    def test_any_single_sign_put_otherwise(self):
        for chooser in (BEST, NONE):
            self.look_at_signs(str(chooser), Chooser.read)

    def look_at_signs(self, text, read):
        for at in range(len(text) + 1):
            for sign in ("", " ", "\n", "0", "1", "-", "a"):
                for end in (at, at + 1):
                    self.look_at_one(text[:at] + sign + text[end:], read)

    def look_at_one(self, text, read):
        try:
            self.assertEqual(str(read(text)), text)
        except OfferError as error:
            self.assertIs(type(error), BadText)
            self.assertEqual(error.line, bad_line(text))

    def test_texts_of_those_of_six_offers(self):
        six = either_of(*random_choosers(6, 2, 7))
        self.assertTrue(Chooser.read(str(six)) == six)
        refused(self, BadText, {"line": 66}, Chooser.read, str(six) + "\n-")


if __name__ == "__main__":
    unittest.main()
