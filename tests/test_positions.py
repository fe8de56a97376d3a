"""[7.1], [7.4]: positions.py."""

import random
import unittest
from itertools import product

import naive
from samples import (
    BEST, BOTH, EVERY, GREATEST, LEAST, LENDERS, NONE, T, TAKERS, TWO, U, any_values, called, deeds_of_trade, is_same,
    random_choosers, random_stream, random_trade, refused, spoilt,
)
from test_trades import right_stream

from offerstands.errors import BadDeed, BadPosition, BadStream, OtherOffers, TooMany
from offerstands.lists import by_lists
from offerstands.positions import (
    broken_along, broken_by, first_course, fewest_broken, is_course, is_position, positions_of, settler_moves,
)
from offerstands.trades import Trade, stream_read

COMES = (("come", 0), ("come", 1))
# One side has rather 2 than 0 and 1 together, the other one rather these: (2,) and (0, 1) are settled.
RATHER_ONE, RATHER_TWO = by_lists(3, ((2, 0), (2, 1))), by_lists(3, ((0, 1, 2), (1, 0, 2)))
SHORT = Trade((1, 1), ())
FOUR = Trade((1, 2, 1, 1), (2,))


def houses(seed, many=10, longest=2):
    """Two sides and a trade: small ones, and random ones."""
    chance = random.Random(seed)
    found = [(BEST, BOTH, trade) for trade in (T, U, SHORT, Trade((2, 1), ()), Trade((1, 3), (0, 1)))]
    found += [(BOTH, BEST, T), (BEST, BEST, U), (BOTH, BOTH, U), (NONE, BOTH, T)]
    found += [(RATHER_ONE, RATHER_TWO, Trade((1, 2, 1), (0,))), (RATHER_TWO, RATHER_ONE, Trade((1, 1, 1), ()))]
    found += [(LEAST, GREATEST, Trade((1, 2, 1), (0,))), (TWO, EVERY, Trade((1, 1, 2), ())), (LENDERS, TAKERS, FOUR)]
    for _ in range(many):
        offers = chance.choice((1, 2, 3, 3, 4))
        near, far = random_choosers(offers, 2, chance.randrange(10 ** 6))
        found.append((near, far, random_trade(chance, offers, longest if offers < 4 else 1)))
    return found


def hard_streams():
    """Streams by which loans have to be broken, more or fewer."""
    told = (
        (714867, (3, 2, 3, 2), (), "+3 +1 +0 . +0 +0 +0 +3 +2 +1 +2"),
        (151120, (3, 2, 3, 3), (0, 1, 2), ". +0 +1 +0 . +2 -2 +3 +1 -1"),
        (338928, (3, 1, 3, 3), (3,), "+2 +2 +0 +3 +0 +2 -3 +1 +1 -3 -3 -3"),
        (817919, (2, 1, 1, 2), (2,), "-2 +1 +0 +0 +1 -2 +1 -2 +2 +1 +1"),
        (548830, (3, 1, 2, 1), (0, 1), "+2 +0 +3 . +0 -0 +3 -1 +1"),
    )
    houses_of = [(random_choosers(4, 2, seed), Trade(lives, loose), text) for seed, lives, loose, text in told]
    return [(*sides, trade, stream_read(trade, text)) for sides, trade, text in houses_of]


def right_deed(trade, thing):
    return any(is_same(thing, deed) for deed in deeds_of_trade(trade))


def bad_deeds(trade):
    values = any_values() + list(spoilt(("come", 0))) + list(spoilt(("day",))) + [("gone", x) for x in range(4)]
    return [value for value in values + ["come", ("come", 9)] if not right_deed(trade, value)]


def courses(near, far, trade, stream):
    """All courses for a stream, ascending."""
    stood = [naive.stands(trade, stream[:at + 1]) for at in range(len(stream))]
    return list(product(*[sorted(naive.settled_sets(near, far, naive.stand_in(dated))) for dated in stood]))


def broken_in(trade, stream, course):
    position, many = ((), ()), 0
    for at, kept in enumerate(course):
        following = (naive.stands(trade, stream[:at + 1]), kept)
        many += len(naive.broken(position, following))
        position = following
    return many


class PositionsTest(unittest.TestCase):
    def test_positions_of(self):
        for near, far, trade in houses(501):
            told = tuple(naive.positions(near, far, trade))
            self.assertEqual(called(self, positions_of, near, far, trade), told)
            self.assertEqual(called(self, positions_of, near, far, trade, most=len(told)), told)
            few = len(told) - 1
            refused(self, TooMany, {"most": few}, positions_of, near, far, trade, most=few)
            self.assertIn(((), ()), told)

    def test_four_hundred(self):
        every = naive.every_of(3)
        self.assertEqual(len(positions_of(every, every, Trade((9, 9, 3), ()))), 400)
        for named in ({}, {"most": 400}):
            refused(self, TooMany, {"most": 400}, positions_of, every, every, Trade((9, 9, 4), ()), **named)

    def test_is_position(self):
        for near, far, trade in houses(502)[:14]:
            right = naive.positions(near, far, trade)
            for position in right:
                self.assertIs(is_position(near, far, trade, position), True)
            made = [worse for position in right[::7] + right[-1:] for worse in spoilt(position)]
            made += [(dated, kept) for dated, _ in right[::5] for kept in naive.sets_of(near.offers)]
            for thing in any_values() + made:
                told = any(is_same(thing, position) for position in right)
                self.assertIs(is_position(near, far, trade, thing), told, thing)
        self.assertIs(called(self, is_position, BEST, BOTH, T, (((0, 2), (1, 2)), (1,))), True)
        self.assertIs(called(self, is_position, BEST, BOTH, T, (((0, 2), (1, 2)), (0,))), False)

    def test_settler_moves(self):
        told = ((((0, 2), (1, 2)), (1,)),)
        self.assertEqual(called(self, settler_moves, BEST, BOTH, T, (((0, 2),), (0,)), ("come", 1)), told)
        lengths = {}
        for near, far, trade in houses(503):
            for position in naive.positions(near, far, trade)[::3]:
                for deed in deeds_of_trade(trade):
                    told = tuple(naive.settler_moves(near, far, trade, position, deed))
                    self.assertEqual(settler_moves(near, far, trade, position, deed), told)
                    lengths[len(told)] = True
        self.assertTrue({1, 2} <= set(lengths))

    def test_broken_by(self):
        self.assertEqual(called(self, broken_by, (((0, 2),), (0,)), (((0, 2), (1, 2)), (1,))), (0,))
        # What perishes, or is taken back, is not broken.
        self.assertEqual(broken_by((((0, 1), (1, 2)), (0, 1)), (((1, 1),), (1,))), ())
        self.assertEqual(broken_by((((0, 1), (1, 2)), (0, 1)), (((0, 1),), ())), (0,))
        for near, far, trade in houses(504):
            positions = naive.positions(near, far, trade)
            for position in positions[::5]:
                for following in positions[::3]:
                    self.assertEqual(called(self, broken_by, position, following), naive.broken(position, following))


class CoursesTest(unittest.TestCase):
    def test_worked_examples(self):
        self.assertEqual(called(self, fewest_broken, BEST, BOTH, T, COMES), 1)
        self.assertEqual(called(self, first_course, BEST, BOTH, T, COMES), ((0,), (1,)))
        self.assertEqual(called(self, broken_along, T, COMES, ((0,), (1,))), 1)
        self.assertIs(called(self, is_course, BEST, BOTH, T, COMES, ((0,), (1,))), True)
        self.assertEqual(fewest_broken(BEST, BOTH, T, ()), 0)
        self.assertEqual(first_course(BEST, BOTH, T, ()), ())
        self.assertEqual(broken_along(T, (), ()), 0)
        self.assertIs(is_course(BEST, BOTH, T, (), ()), True)

    def test_against_all_courses(self):
        chance = random.Random(505)
        met = {}
        more = [(LENDERS, TAKERS, Trade((2, 2, 2, 2), (0, 1))), (LEAST, GREATEST, Trade((2, 3, 1), (1,)))] * 20
        rows = [(*house, random_stream(chance, house[2], chance.randint(0, 11))) for house in houses(506, 20)[9:] + more]
        for near, far, trade, stream in rows + hard_streams():
            every = courses(near, far, trade, stream)
            if len(every) > 5000:
                continue
            many = [broken_in(trade, stream, course) for course in every]
            self.assertEqual(fewest_broken(near, far, trade, stream), min(many))
            first = every[many.index(min(many))]
            self.assertEqual(first_course(near, far, trade, stream), first)
            self.assertEqual(first, min(course for course, lost in zip(every, many) if lost == min(many)))
            for course in every[:: 1 + len(every) // 9]:
                self.assertIs(is_course(near, far, trade, stream, course), True)
                self.assertEqual(broken_along(trade, stream, course), broken_in(trade, stream, course))
            met[min(many), len(every) > 1, max(many) > min(many)] = True
        self.assertIn((0, True, True), met)
        self.assertIn((1, True, True), met)

    def test_a_course_that_looks_ahead(self):
        """Both lists of loans stand settled; only the one can be kept behind the last deed."""
        trade = Trade((3, 3, 3, 3), (0, 1, 2, 3))
        comings = tuple(("come", x) for x in range(4))
        for gone in range(4):
            stream = comings + (("gone", gone),)
            every = courses(LENDERS, TAKERS, trade, stream)
            least = min(broken_in(trade, stream, course) for course in every)
            told = first_course(LENDERS, TAKERS, trade, stream)
            self.assertEqual(told, min(row for row in every if broken_in(trade, stream, row) == least))
            self.assertEqual(fewest_broken(LENDERS, TAKERS, trade, stream), least)

    def test_is_course(self):
        chance = random.Random(507)
        for near, far, trade in houses(508):
            stream = random_stream(chance, trade, 3)
            right = courses(near, far, trade, stream)
            made = [worse for course in right[:2] + right[-1:] for worse in spoilt(course)]
            made += list(product(naive.sets_of(near.offers)[:6], repeat=3))
            for thing in any_values() + right + made:
                told = any(is_same(thing, course) for course in right)
                self.assertIs(is_course(near, far, trade, stream, thing), told, thing)

    def test_long_streams(self):
        chance = random.Random(509)
        for _ in range(4):
            near, far = random_choosers(4, 2, chance.randrange(999))
            trade = random_trade(chance, 4, 3)
            stream = random_stream(chance, trade, 40)
            course = called(self, first_course, near, far, trade, stream)
            self.assertIs(called(self, is_course, near, far, trade, stream, course), True)
            many = called(self, broken_along, trade, stream, course)
            self.assertEqual(many, broken_in(trade, stream, course))
            self.assertEqual(called(self, fewest_broken, near, far, trade, stream), many)


class ErrorsTest(unittest.TestCase):
    def test_other_offers_ahead_of_all_else(self):
        three, one = by_lists(3, ()), Trade((1,), ())
        for near, far, trade in ((BEST, three, T), (three, BEST, T), (BEST, BOTH, one), (three, three, T)):
            refused(self, OtherOffers, {}, is_position, near, far, trade, None)
            refused(self, OtherOffers, {}, is_position, near, far, trade, ((), ()))
            refused(self, OtherOffers, {}, positions_of, near, far, trade, most=0)
            refused(self, OtherOffers, {}, settler_moves, near, far, trade, None, None)
            refused(self, OtherOffers, {}, is_course, near, far, trade, None, None)
            for function in (fewest_broken, first_course):
                refused(self, OtherOffers, {}, function, near, far, trade, None)

    def test_bad_positions_ahead_of_bad_deeds(self):
        for near, far, trade in ((BEST, BOTH, T), (LEAST, GREATEST, Trade((1, 1, 2), (0,)))):
            right = naive.positions(near, far, trade)
            for value in any_values() + [worse for position in right for worse in spoilt(position)]:
                if not any(is_same(value, position) for position in right):
                    refused(self, BadPosition, {"thing": value}, settler_moves, near, far, trade, value, None)
        refused(self, BadPosition, {"thing": 0}, settler_moves, near=BEST, far=BOTH, trade=T, position=0, deed=("day",))

    def test_bad_deeds(self):
        for trade in (T, U):
            for value in bad_deeds(trade):
                refused(self, BadDeed, {"thing": value}, settler_moves, BEST, BOTH, trade, ((), ()), value)

    def test_bad_streams(self):
        for value in any_values() + list(spoilt(COMES)) + [(("gone", 0),)]:
            if not right_stream(T, value):
                told = {"thing": value}
                refused(self, BadStream, told, is_course, BEST, BOTH, T, value, None)
                refused(self, BadStream, told, broken_along, T, value, ())
                refused(self, BadStream, told, broken_along, trade=T, stream=value, course=())
                for function in (fewest_broken, first_course):
                    refused(self, BadStream, told, function, BEST, BOTH, T, value)
                    refused(self, BadStream, told, function, near=BEST, far=BOTH, trade=T, stream=value)


if __name__ == "__main__":
    unittest.main()
