"""[2.1], [2.2], texts of part 2: trades.py."""

import random
import re
import unittest

from samples import (
    BEST, T, TWO, U, any_values, called, deeds_of_trade, every_dated, freeze, is_same, random_dated, random_stream,
    random_trade, refused, spoilt,
)

from offerstands.errors import BadText, BadTrade, OfferError
from offerstands.trades import (
    Trade, aged, is_dated, is_stream, offers_of, put_together, stream_read, stream_text,
)

LONG = Trade((1, 99, 3, 10, 2, 2, 2, 2, 50), (0, 3, 8))


def samples():
    chance = random.Random(31)
    return [T, U, LONG, Trade((1,), ()), Trade((99,), (0,))] + [random_trade(chance, 9, 99) for _ in range(4)]


def right_dated(trade, thing):
    if type(thing) is not tuple or len(thing) > len(trade.lives):
        return False
    told = {(offer, days) for offer, life in enumerate(trade.lives) for days in range(1, life + 1)}
    if not all(any(is_same(item, pair) for pair in told) for item in thing):
        return False
    return sorted({offer for offer, _ in thing}) == [offer for offer, _ in thing]


def right_stream(trade, thing):
    if type(thing) is not tuple:
        return False
    return all(any(is_same(item, deed) for deed in deeds_of_trade(trade)) for item in thing)


def bad_line(text):
    lines = text.split("\n")
    if not re.fullmatch("trade [1-9]", lines[0]):
        return 1
    many = int(lines[0][6:])
    for number in range(2, many + 2):
        if number > len(lines) or not re.fullmatch("offer [1-9][0-9]? (firm|loose)", lines[number - 1]):
            return number
    return many + 2


class TradeTest(unittest.TestCase):
    def test_attributes_and_length(self):
        for trade in samples():
            again = Trade(loose=trade.loose, lives=trade.lives)
            self.assertEqual((again.lives, again.loose), (trade.lives, trade.loose))
            self.assertEqual(len(trade), len(trade.lives))

    def test_equality(self):
        for one in samples():
            for other in samples():
                alike = (one.lives, one.loose) == (other.lives, other.loose)
                self.assertIs(one == other, alike)
                self.assertIs(one != other, not alike)
        for value in any_values():
            alike = isinstance(value, Trade) and value.lives == (2, 2) and value.loose == ()
            self.assertIs(T == value, alike)
            self.assertIs(value == T, alike)
            self.assertIs(T != value, not alike)
        self.assertFalse(T == U)
        self.assertFalse(T == BEST)

    def test_bad_lives_come_first(self):
        for value in any_values() + [(2, 2.5), (0,), (100,), (1,) * 10, [2, 2], (2, True), (2, "2"), (2, None)]:
            right = type(value) is tuple and 1 <= len(value) <= 9
            if not (right and all(type(life) is int and 1 <= life <= 99 for life in value)):
                for loose in ((), None, (9,)):
                    refused(self, BadTrade, {"part": "lives"}, Trade, value, loose)
                refused(self, BadTrade, {"part": "lives"}, Trade, lives=value, loose=())
        self.assertEqual(Trade((99,) * 9, (0, 8)).lives, (99,) * 9)

    def test_bad_loose(self):
        for value in any_values() + list(spoilt((0, 1))):
            if any(is_same(value, some) for some in ((), (0,), (1,), (0, 1))):
                self.assertEqual(Trade((2, 2), value).loose, value)
            else:
                refused(self, BadTrade, {"part": "loose"}, Trade, (2, 2), value)
        refused(self, BadTrade, {"part": "loose"}, Trade, (2, 2), (2,))


class TradeTextTest(unittest.TestCase):
    def test_texts(self):
        self.assertEqual(str(U), "trade 2\noffer 2 firm\noffer 2 loose")
        self.assertEqual(str(Trade((10,), (0,))), "trade 1\noffer 10 loose")
        for trade in samples():
            text = str(trade)
            self.assertTrue(called(self, Trade.read, text) == trade)
            self.assertEqual(str(Trade.read(text)), text)

    def test_no_string(self):
        for value in any_values():
            line = 1 if isinstance(value, str) else 0
            refused(self, BadText, {"line": line}, Trade.read, value)
            refused(self, BadText, {"line": line}, Trade.read, text=value)

    def test_first_line(self):
        for head in (
                "trade", "trade 0", "trade 10", "trade 02", "trade +2", "trade  2", " trade 2", "trade 2 ", "Trade 2",
                "chooser 2", "", "trade 2 2", "trade two", "trade -2", "trade2",
        ):
            refused(self, BadText, {"line": 1}, Trade.read, head + "\noffer 2 firm\noffer 2 loose")
            refused(self, BadText, {"line": 1}, Trade.read, head)

    def test_each_line_put_otherwise(self):
        lines = str(U).split("\n")
        for at in (1, 2):
            for worse in (
                    "", "offer", "offer 2", "offer 0 firm", "offer 100 firm", "offer 02 firm", "offer  2 firm",
                    "offer 2 firm ", " offer 2 firm", "offer 2 Firm", "offer firm 2", "offer -1 firm",
                    "offer 2 firm firm", "offer +2 loose", "2 firm", "offer 2 loosefirm", "offer x firm",
                    "trade 2", "offer 2firm",
            ):
                text = "\n".join(lines[:at] + [worse] + lines[at + 1:])
                refused(self, BadText, {"line": at + 1}, Trade.read, text)
                refused(self, BadText, {"line": at + 1}, Trade.read, text + "\nx")

    def test_lines_left_out_added_or_doubled(self):
        lines = str(U).split("\n")
        for many in (1, 2):
            refused(self, BadText, {"line": many + 1}, Trade.read, "\n".join(lines[:many]))
        for end in ("\n", "\noffer 2 firm", "\n\n\n", "\nx\ny"):
            refused(self, BadText, {"line": 4}, Trade.read, str(U) + end)
        refused(self, BadText, {"line": 2}, Trade.read, str(U).replace("\n", "\n\n"))
        refused(self, BadText, {"line": 1}, Trade.read, "\n" + str(U))

    def test_any_single_sign_put_otherwise(self):
        text = str(U)
        for at in range(len(text) + 1):
            for sign in ("", " ", "\n", "0", "1", "9", "-", "a"):
                for end in (at, at + 1):
                    self.look_at(text[:at] + sign + text[end:])

    def look_at(self, text):
        try:
            self.assertEqual(str(Trade.read(text)), text)
        except OfferError as error:
            self.assertIs(type(error), BadText)
            self.assertEqual(error.line, bad_line(text), repr(text))


class KindsTest(unittest.TestCase):
    def test_is_dated(self):
        for trade in (T, U, Trade((1, 3), (0,)), Trade((2,), ())):
            for dated in every_dated(trade):
                self.assertIs(called(self, is_dated, trade, dated), True)
            for thing in any_values() + list(spoilt(((0, 1), (1, 2)))) + list(spoilt(((0, 2),))):
                self.assertIs(called(self, is_dated, trade, thing), right_dated(trade, thing), thing)
        self.assertIs(is_dated(LONG, ((1, 99), (8, 50))), True)
        for wrong in (((1, 100),), ((0, 2),), ((8, 50), (1, 99)), ((1, 3), (1, 4)), ((9, 1),), ((1, 0),), ([1, 3],)):
            self.assertIs(is_dated(LONG, wrong), False)

    def test_is_stream(self):
        chance = random.Random(32)
        for trade in (T, U, LONG):
            for many in (0, 1, 5, 40):
                self.assertIs(called(self, is_stream, trade, random_stream(chance, trade, many)), True)
        right = (("come", 0), ("day",), ("gone", 1))
        for trade in (T, U):
            for thing in any_values() + [right] + list(spoilt(right)):
                self.assertIs(called(self, is_stream, trade, thing), right_stream(trade, thing), thing)
        self.assertIs(is_stream(T, (("gone", 1),)), False)
        self.assertIs(is_stream(U, (("gone", 0),)), False)
        for trade in (T, U, Trade((1,), (0,)), Trade((1,) * 9, tuple(range(9)))):
            for word in ("come", "gone"):
                for offer in range(-2, len(trade) + 3):
                    thing = (("day",), (word, offer))
                    self.assertIs(is_stream(trade, thing), right_stream(trade, thing), thing)
        self.assertIs(is_stream(U, (("gone", 1),) * 400), True)


class StreamTextTest(unittest.TestCase):
    def test_worked_examples(self):
        self.assertEqual(called(self, stream_text, (("come", 0), ("day",), ("gone", 1))), "+0 . -1")
        self.assertEqual(called(self, stream_text, ()), "0")
        self.assertEqual(called(self, stream_read, U, "+0 . -1"), (("come", 0), ("day",), ("gone", 1)))
        self.assertEqual(called(self, stream_read, U, "0"), ())

    def test_read_back(self):
        chance = random.Random(33)
        for trade in samples():
            for many in (0, 1, 2, 7, 40, 900):
                stream = random_stream(chance, trade, many)
                self.assertEqual(stream_read(trade, stream_text(stream)), stream)

    def test_refused(self):
        for value in any_values():
            if value != "0" or not isinstance(value, str):
                refused(self, BadText, {"line": 0}, stream_read, U, value)
                refused(self, BadText, {"line": 0}, stream_read, trade=U, text=value)
        for text in (
                "", " ", "+0  .", "+0 .  ", " +0", "+0 ", "+2", "-0", "+00", "+01", "-2", "+", "-", ". 0", "0 .",
                "0 0", "00", "+0.", "..", "+0\n.", "+ 0", "+-1", "+0 . -1 x", "-1 -0", "come 0", "+10", "\n",
                "0\n", "1", "+0,.",
        ):
            refused(self, BadText, {"line": 0}, stream_read, U, text)
        refused(self, BadText, {"line": 0}, stream_read, T, "-1")

    def test_any_single_sign_put_otherwise(self):
        text = "+0 . -1 +1"
        told = {stream_text((deed,)): deed for deed in deeds_of_trade(U)}
        for at in range(len(text) + 1):
            for sign in ("", " ", "0", "1", "2", "+", "-", ".", "\n"):
                for end in (at, at + 1):
                    words = (text[:at] + sign + text[end:]).split(" ")
                    if all(word in told for word in words):
                        self.assertEqual(stream_read(U, " ".join(words)), tuple([told[word] for word in words]))
                    else:
                        refused(self, BadText, {"line": 0}, stream_read, U, " ".join(words))


class DatedTest(unittest.TestCase):
    def test_put_together(self):
        one, other = ((0, 1), (2, 3)), ((0, 2), (1, 1), (2, 1))
        self.assertEqual(called(self, put_together, one, other), ((0, 2), (1, 1), (2, 3)))
        chance = random.Random(34)
        trade = random_trade(chance, 5)
        for _ in range(60):
            one, other = random_dated(chance, trade), random_dated(chance, trade)
            ones, others = dict(one), dict(other)
            told = {offer: max(ones.get(offer, 0), others.get(offer, 0)) for offer in (*ones, *others)}
            self.assertEqual(put_together(one, other), tuple(sorted(told.items())))
        self.assertEqual(put_together((), ()), ())

    def test_aged(self):
        dated = ((0, 1), (1, 3), (4, 2))
        self.assertEqual(called(self, aged, dated, 0), dated)
        self.assertEqual(called(self, aged, dated, 1), ((1, 2), (4, 1)))
        self.assertEqual(called(self, aged, dated, 2), ((1, 1),))
        self.assertEqual(called(self, aged, dated, 3), ())
        self.assertEqual(called(self, aged, dated, 10 ** 39), ())
        self.assertEqual(called(self, aged, (), 1), ())

    def test_offers_of(self):
        self.assertEqual(called(self, offers_of, ((0, 1), (1, 3), (4, 2))), (0, 1, 4))
        self.assertEqual(called(self, offers_of, ()), ())

    def test_nothing_is_changed(self):
        before = freeze((T, U, TWO))
        str(T), len(T), T == U
        self.assertEqual(freeze((T, U, TWO)), before)


if __name__ == "__main__":
    unittest.main()
