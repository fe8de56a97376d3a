"""[1.6]: making.py."""

import random
import unittest
from itertools import permutations

import naive
from samples import (
    BEST, BOTH, GREATEST, LEAST, NOT_APART, TWO, any_values, called, every_chooser, every_list, is_same,
    random_choosers,
    random_list, refused, spoilt,
)

from offerstands.choosers import Chooser
from offerstands.errors import BadSet, OtherOffers
from offerstands.lists import by_lists, is_apart
from offerstands.making import either_of, first_other_picks, first_some, in_turn, leaving_out, renamed


def pairs():
    three = random_choosers(3, 6, 21) + every_chooser(3)[::700]
    six = random_choosers(6, 2, 22)
    return [(one, other) for one in three for other in three] + [(BEST, BOTH), (BOTH, NOT_APART), tuple(six)]


class MakingTest(unittest.TestCase):
    def test_first_some(self):
        of_two = called(self, first_some, 3, (2, 0, 1), 2)
        self.assertEqual(of_two.taken((0, 1, 2)), (0, 2))
        for row in every_list(3):
            for many in range(5):
                made = first_some(3, row, many)
                self.assertIs(is_apart(made), True)
                for some, part in naive.picks_of(made).items():
                    self.assertEqual(part, tuple(sorted([x for x in row if x in some][:many])))
        self.assertEqual(first_some(2, (1, 0), 10 ** 39), BOTH)
        self.assertEqual(first_some(1, (), 1), Chooser(1, ((), ())))

    def test_either_and_in_turn(self):
        self.assertEqual(called(self, in_turn, LEAST, GREATEST), TWO)
        for one, other in pairs():
            either, turn = called(self, either_of, one, other), called(self, in_turn, one, other)
            ones, others = naive.picks_of(one), naive.picks_of(other)
            for some in ones:
                self.assertEqual(either.taken(some), naive.union(ones[some], others[some]))
                rest = tuple([x for x in some if x not in ones[some]])
                self.assertEqual(turn.taken(some), naive.union(ones[some], others[rest]))
            if is_apart(one) and is_apart(other):
                self.assertIs(is_apart(either) and is_apart(turn), True)

    def test_leaving_out(self):
        for chooser in (TWO, NOT_APART, BEST, *random_choosers(6, 1, 23)):
            for some in naive.sets_of(chooser.offers)[:20]:
                made = called(self, leaving_out, chooser, some)
                for whole in naive.sets_of(chooser.offers):
                    rest = tuple([x for x in whole if x not in some])
                    self.assertEqual(made.taken(whole), naive.picks_of(chooser)[rest])
        self.assertEqual(leaving_out(BEST, (1,)).taken((0, 1)), (0,))

    def test_leaving_out_refuses(self):
        for value in any_values() + list(spoilt((0, 1))):
            if not any(is_same(value, some) for some in naive.sets_of(2)):
                refused(self, BadSet, {"thing": value}, leaving_out, BEST, value)
                refused(self, BadSet, {"thing": value}, leaving_out, chooser=NOT_APART, some=value)

    def test_renamed(self):
        self.assertEqual(called(self, renamed, TWO, (1, 0, 2)).taken((0, 1, 2)), (1, 2))
        for chooser in [TWO, *random_choosers(3, 3, 24), *every_chooser(3)[::900]]:
            for order in permutations(range(3)):
                made = called(self, renamed, chooser, order)
                for some, part in naive.picks_of(chooser).items():
                    there = made.taken(tuple(sorted([order[x] for x in some])))
                    self.assertEqual(there, tuple(sorted([order[x] for x in part])))
        turned = renamed(by_lists(3, ((0, 1, 2),)), (1, 2, 0))
        self.assertEqual(turned, by_lists(3, ((1, 2, 0),)))

    def test_first_other_picks(self):
        self.assertEqual(called(self, first_other_picks, TWO, LEAST), (0, 1))
        for one, other in pairs():
            ones, others = naive.picks_of(one), naive.picks_of(other)
            unlike = [some for some in naive.sets_of(one.offers) if ones[some] != others[some]]
            self.assertEqual(called(self, first_other_picks, one, other), unlike[0] if unlike else None)
        self.assertIs(first_other_picks(TWO, TWO), None)

    def test_other_offers(self):
        for function in (either_of, in_turn, first_other_picks):
            for one, other in ((BEST, TWO), (TWO, BEST), (NOT_APART, TWO)):
                refused(self, OtherOffers, {}, function, one, other)
                refused(self, OtherOffers, {}, function, one=one, other=other)

    def test_of_six_offers(self):
        chance = random.Random(25)
        for _ in range(3):
            row = random_list(chance, 6)
            made = first_some(6, row, 2)
            self.assertEqual(made.taken((0, 1, 2, 3, 4, 5)), tuple(sorted(row[:2])))
            self.assertTrue(Chooser.read(str(made)) == made)


if __name__ == "__main__":
    unittest.main()
