"""[6.1]: pressing.py."""

import random
import unittest

import naive
from samples import (
    BEST, EVERY, GREATEST, LEAST, LENDERS, NONE, TAKERS, any_values, called, is_same, refused, spoilt,
)
from test_sides import ALL, sides, some_standing

from offerstands.errors import BadSet, NotWished, OtherOffers
from offerstands.lists import by_lists
from offerstands.pressing import parts_behind, pressable, pressed, pressed_all

FOUR = (0, 1, 2, 3)


def agreed_parts(near, far, standing):
    return [part for part in naive.parts_of(standing) if naive.is_agreed(near, far, part)]


def cases(seed, step=3):
    """Two sides, what stands, an agreed part of it."""
    for near, far in sides(seed)[::step] + [(LENDERS, TAKERS), (LEAST, LEAST)]:
        for standing in some_standing(near, far)[-4:]:
            for part in agreed_parts(near, far, standing):
                yield near, far, standing, part


class PressingTest(unittest.TestCase):
    def test_worked_examples(self):
        self.assertEqual(called(self, pressable, LEAST, LEAST, ALL, (2,)), (0, 1))
        self.assertEqual(called(self, pressed, LEAST, LEAST, ALL, (2,), 1), (1,))
        part = (0,)
        for offer, told in ((1, (1,)), (2, (2,)), (3, (3,)), (0, (0,))):
            part = called(self, pressed, LENDERS, TAKERS, FOUR, part, offer)
            self.assertEqual(part, told)
        self.assertEqual(called(self, pressed_all, LENDERS, TAKERS, FOUR, (0,), (1, 2, 3, 0)), (0,))
        self.assertEqual(pressed(LENDERS, TAKERS, FOUR, (0,), 2), (0, 2))

    def test_as_the_document_says(self):
        tried = 0
        for near, far, standing, part in cases(421):
            told = naive.presses(near, far, standing, part)
            self.assertEqual(pressable(near, far, standing, part), tuple(sorted(told)))
            self.assertEqual(not told, naive.is_settled(near, far, standing, part))
            for offer, found in told.items():
                self.assertEqual(pressed(near, far, standing, part, offer), found)
                self.assertTrue(offer in found and naive.is_agreed(near, far, found))
                tried += 1
            self.assertEqual(parts_behind(near, far, standing, part), naive.parts_behind(near, far, standing, part))
        self.assertGreater(tried, 300)

    def test_one_behind_the_other(self):
        chance = random.Random(422)
        lengths = {}
        for near, far, standing, part in cases(423):
            offers, there = [], part
            for _ in range(chance.randint(0, 9)):
                told = naive.presses(near, far, standing, there)
                if told:
                    offers.append(chance.choice(sorted(told)))
                    there = told[offers[-1]]
            self.assertEqual(pressed_all(near, far, standing, part, tuple(offers)), there)
            self.assertIn(there, parts_behind(near, far, standing, part))
            lengths[len(offers)] = True
        self.assertTrue({0, 1, 2, 3, 4} <= set(lengths), lengths)

    def test_calls_by_name(self):
        for near, far, standing, part in list(cases(424))[::31]:
            offers = called(self, pressable, near, far, standing, part)
            called(self, parts_behind, near, far, standing, part)
            called(self, pressed_all, near, far, standing, part, offers[:1])
            for offer in offers:
                called(self, pressed, near, far, standing, part, offer)

    def test_what_stands_alone_is_pressed_in(self):
        self.assertEqual(pressable(LEAST, LEAST, (1, 2), (2,)), (1,))
        self.assertEqual(parts_behind(LEAST, LEAST, (1, 2), (2,)), ((1,), (2,)))
        self.assertEqual(parts_behind(LEAST, LEAST, (), ()), ((),))
        self.assertEqual(pressable(EVERY, EVERY, (), ()), ())
        self.assertEqual(pressed_all(EVERY, EVERY, (), (), ()), ())

    def test_two_hundred_offers(self):
        offers = (1, 2, 3, 0) * 50
        self.assertEqual(pressed_all(LENDERS, TAKERS, FOUR, (0,), offers), (0,))
        refused(self, NotWished, {"offer": 2}, pressed_all, LENDERS, TAKERS, FOUR, (1,), (2, 2) + offers)


class ErrorsTest(unittest.TestCase):
    FUNCTIONS = (pressable, parts_behind)

    def test_other_offers_ahead_of_all_else(self):
        for near, far in ((BEST, LEAST), (LENDERS, by_lists(5, ()))):
            for function in self.FUNCTIONS:
                refused(self, OtherOffers, {}, function, near, far, None, None)
            for function in (pressed, pressed_all):
                refused(self, OtherOffers, {}, function, near, far, None, None, (None,))

    def test_bad_sets_ahead_of_not_wished(self):
        for value in any_values() + list(spoilt(ALL)):
            if any(is_same(value, some) for some in naive.sets_of(3)):
                continue
            told = {"thing": value}
            for function in self.FUNCTIONS:
                refused(self, BadSet, told, function, LEAST, EVERY, value, None)
                refused(self, BadSet, told, function, LEAST, EVERY, ALL, value)
                refused(self, BadSet, told, function, near=LEAST, far=EVERY, standing=ALL, part=value)
            refused(self, BadSet, told, pressed, LEAST, EVERY, value, (0, 1), None)
            refused(self, BadSet, told, pressed, LEAST, EVERY, ALL, value, None)
            refused(self, BadSet, told, pressed_all, LEAST, EVERY, value, (0, 1), (None,))
            refused(self, BadSet, told, pressed_all, LEAST, EVERY, ALL, value, (None,))

    def test_parts_that_do_not_stand_or_are_not_agreed(self):
        for near, far, standing, part in (
                (LEAST, EVERY, (0, 1), (2,)), (LEAST, EVERY, (), (0,)), (LEAST, EVERY, ALL, (0, 1)),
                (EVERY, LEAST, ALL, (0, 1)), (NONE, BEST, (0, 1), (0,)), (BEST, NONE, (0, 1), (1,)),
        ):
            for function in self.FUNCTIONS:
                refused(self, BadSet, {"thing": part}, function, near, far, standing, part)
            refused(self, BadSet, {"thing": part}, pressed, near, far, standing, part, None)
            refused(self, BadSet, {"thing": part}, pressed_all, near, far, standing, part, (None,))
            refused(self, BadSet, {"thing": part}, pressed_all, near, far, standing, part, ())

    def test_not_wished(self):
        for value in any_values() + [0, 1, 2, 3]:
            for near, far, standing, part in ((LEAST, LEAST, ALL, (1,)), (LEAST, GREATEST, ALL, (1,))):
                if naive.pressed_in(near, far, standing, part, (value,)) is None:
                    told = {"offer": value}
                    refused(self, NotWished, told, pressed, near, far, standing, part, value)
                    refused(self, NotWished, told, pressed_all, near, far, standing, part, (value, None))
        refused(self, NotWished, {"offer": 0}, pressed, near=LEAST, far=LEAST, standing=(1, 2), part=(2,), offer=0)

    def test_the_first_that_is_not_wished(self):
        for value in any_values():
            if naive.pressed_in(LEAST, LEAST, ALL, (1,), (value,)) is None:
                refused(self, NotWished, {"offer": value}, pressed_all, LEAST, LEAST, ALL, (2,), (1, value, 0, None))
        refused(self, NotWished, {"offer": 1}, pressed_all, LEAST, LEAST, ALL, (2,), (0, 1, 0))


if __name__ == "__main__":
    unittest.main()
