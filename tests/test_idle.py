"""[2.7]: idle.py."""

import random
import unittest

import naive
from samples import BEST, BOTH, NONE, T, TWO, U, any_values, called, freeze, random_stream, refused, spoilt
from test_skylines import SMALL, apart, random_cases
from test_trades import right_dated, right_stream

from offerstands.errors import BadDated, BadStream, OtherOffers
from offerstands.idle import idle_deeds, plain_stream
from offerstands.streams import bringing
from offerstands.trades import Trade

COMES = (("come", 0), ("day",), ("come", 1))


def left_by(chooser, trade, stream, start):
    return naive.skyline(chooser, trade, naive.stands(trade, stream, start))


def naive_idle(chooser, trade, stream, start):
    whole = left_by(chooser, trade, stream, start)
    return tuple([
        at for at in range(len(stream))
        if left_by(chooser, trade, stream[:at] + stream[at + 1:], start) == whole
    ])


def naive_plain(chooser, trade, stream, start):
    while places := naive_idle(chooser, trade, stream, start):
        stream = stream[:places[0]] + stream[places[0] + 1:]
    return stream


class IdleTest(unittest.TestCase):
    def test_worked_example(self):
        self.assertEqual(called(self, plain_stream, BEST, T, COMES), (("come", 1),))
        # Without the day 0 stands for two days, and is guarded yet.
        self.assertEqual(called(self, idle_deeds, BEST, T, COMES), (0, 1))
        self.assertEqual(called(self, idle_deeds, BEST, T, ()), ())
        self.assertEqual(called(self, plain_stream, BEST, T, ()), ())

    def test_edges(self):
        # Each of two comings is idle, both are not.
        twice = (("come", 0), ("come", 0))
        self.assertEqual(idle_deeds(BEST, T, twice), (0, 1))
        self.assertEqual(plain_stream(BEST, T, twice), (("come", 0),))
        self.assertEqual(plain_stream(NONE, T, COMES), ())
        self.assertEqual(idle_deeds(NONE, T, COMES), (0, 1, 2))
        self.assertEqual(idle_deeds(BOTH, T, COMES), ())
        self.assertEqual(plain_stream(BOTH, T, COMES), COMES)
        self.assertEqual(idle_deeds(BEST, U, (("gone", 1),)), (0,))
        self.assertEqual(idle_deeds(BEST, U, (("gone", 1),), start=((1, 2),)), ())
        self.assertEqual(plain_stream(BEST, U, (("come", 1), ("gone", 1)), start=((1, 1),)), (("gone", 1),))
        self.assertEqual(plain_stream(BEST, U, (("come", 1), ("gone", 1))), ())

    def test_the_first_idle_deed_again_and_again(self):
        chance = random.Random(71)
        for chooser in apart(2):
            for trade in SMALL:
                for _ in range(12):
                    stream = random_stream(chance, trade, chance.randint(2, 6))
                    self.assertEqual(plain_stream(chooser, trade, stream), naive_plain(chooser, trade, stream, ()))
        # The first one that is left out is that of 0, though the first coming of 1 is idle, too.
        stream = (("come", 0), ("come", 1), ("come", 1))
        self.assertEqual(idle_deeds(BEST, T, stream), (0, 1, 2))
        self.assertEqual(plain_stream(BEST, T, stream), (("come", 1),))
        stream = (("day",), ("come", 0), ("day",), ("day",), ("come", 0))
        self.assertEqual(plain_stream(BEST, T, stream), (("come", 0),))

    def test_as_the_document_says(self):
        chance = random.Random(72)
        for chooser, trade, start, other in random_cases(73, 8):
            for begin, many in (((), 12), (start, 7), (other, 3)):
                stream = random_stream(chance, trade, many)
                before = freeze((chooser, trade, stream, begin))
                told = naive_idle(chooser, trade, stream, begin)
                self.assertEqual(idle_deeds(chooser, trade, stream, start=begin), told)
                self.assertEqual(idle_deeds(start=begin, stream=stream, trade=trade, chooser=chooser), told)
                plain = naive_plain(chooser, trade, stream, begin)
                self.assertEqual(plain_stream(chooser, trade, stream, start=begin), plain)
                self.assertEqual(plain_stream(start=begin, stream=stream, trade=trade, chooser=chooser), plain)
                self.assertEqual(freeze((chooser, trade, stream, begin)), before)
            self.assertEqual(plain_stream(chooser, trade, plain), naive_plain(chooser, trade, plain, ()))
            brought = bringing(trade, start)
            self.assertEqual(called(self, plain_stream, chooser, trade, brought), naive_plain(chooser, trade, brought,
                ()))

    def test_errors(self):
        for function in (idle_deeds, plain_stream):
            for value in any_values() + list(spoilt(((0, 1), (1, 2)))):
                if not right_dated(T, value):
                    refused(self, BadDated, {"thing": value}, function, BEST, T, COMES, start=value)
                    refused(self, BadDated, {"thing": value}, function, BEST, T, None, start=value)
            for value in any_values() + list(spoilt(COMES)) + [(("gone", 0),)]:
                if not right_stream(T, value):
                    refused(self, BadStream, {"thing": value}, function, BEST, T, value)
                    refused(self, BadStream, {"thing": value}, function, chooser=BEST, trade=T, stream=value,
                        start=((0, 1),))
            for chooser, trade in ((TWO, T), (BEST, Trade((1,), ()))):
                refused(self, OtherOffers, {}, function, chooser, trade, COMES)
                refused(self, OtherOffers, {}, function, chooser, trade, None, start=None)
            with self.assertRaises(TypeError):
                function(BEST, T, COMES, ())


if __name__ == "__main__":
    unittest.main()
