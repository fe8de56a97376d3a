"""[11.2]: gates.py."""

import random
import unittest
from itertools import product

import naive
from samples import BEST, BOTH, NONE, any_values, called, is_same, random_choosers, refused, spoilt

from offerstands.errors import OtherOffers
from offerstands.gates import first_shown, is_shown, shown_holds
from offerstands.lists import by_lists
from offerstands.making import first_some

RATHER_0 = by_lists(2, ((0, 1),))


def unlike(before, after, some):
    return any(naive.picks_of(one)[some] != naive.picks_of(other)[some] for one, other in zip(before, after))


def first_stream(room, before, after):
    """The first stream of comings, perhaps of one offer again and again, behind which something is unlike."""
    offers = before[0].offers
    comings = [("come", x) for x in range(offers)]
    for many in range(offers + 1):
        for stream in product(comings, repeat=many):
            if right_stream(room, before, after, stream):
                return stream
    return None


def right_stream(room, before, after, thing):
    offers = before[0].offers
    if type(thing) is not tuple or not all(
            any(is_same(item, ("come", x)) for x in range(offers)) for item in thing):
        return False
    standing = tuple(sorted({x for _, x in thing}))
    return len(standing) <= room and unlike(before, after, standing)


def editions(seed, many=60):
    """Pairs of editions of one chooser and of two: alike, unlike, unlike beyond some room alone."""
    chance = random.Random(seed)
    found = [((BEST,), (RATHER_0,)), ((BEST,), (BEST,)), ((BEST, BOTH), (BEST, BEST)), ((NONE,), (BOTH,))]
    for _ in range(many):
        offers = chance.choice((1, 2, 3, 3, 4))
        size = chance.choice((1, 2))
        before = tuple(random_choosers(offers, size, chance.randrange(10 ** 6)))
        after = tuple(random_choosers(offers, size, chance.randrange(10 ** 6)))
        kept = chance.randrange(size + 1)
        found.append((before, before[:kept] + after[kept:]))
    return found


class GatesTest(unittest.TestCase):
    def test_worked_examples(self):
        self.assertIs(called(self, is_shown, 1, (BEST,), (RATHER_0,)), False)
        self.assertIs(called(self, first_shown, 1, (BEST,), (RATHER_0,)), None)
        self.assertEqual(called(self, first_shown, 2, (BEST,), (RATHER_0,)), (("come", 0), ("come", 1)))
        self.assertIs(called(self, is_shown, 2, (BEST,), (RATHER_0,)), True)

    def test_as_the_document_says(self):
        met = set()
        for before, after in editions(701):
            offers = before[0].offers
            for room in range(1, offers + 3):
                right = first_stream(room, before, after)
                self.assertEqual(first_shown(room, before, after), right)
                self.assertIs(is_shown(room, before, after), right is not None)
                if right is not None:
                    self.assertIs(called(self, shown_holds, room, before, after, right), True)
                    self.assertIs(shown_holds(len(right) - 1, before, after, right), False)
                met.add((len(before), min(room, offers + 1) - offers, None if right is None else len(right)))
        self.assertTrue({(1, 0, None), (2, 1, None), (1, 0, 1), (2, 1, 1), (1, 0, 2), (2, 0, 2)} <= met, met)

    def test_unlike_beyond_the_room_alone(self):
        """The first two of a list and of the list turned round: of up to two offers both take all."""
        for offers, many in ((2, 1), (3, 2), (4, 2), (4, 3), (5, 4)):
            order = tuple(range(offers))
            one, other = first_some(offers, order, many), first_some(offers, order[::-1], many)
            comings = tuple(("come", x) for x in range(many + 1))
            for before, after in (((one,), (other,)), ((one, one), (one, other)), ((one, one), (other, one))):
                for room in range(1, offers + 2):
                    self.assertEqual(first_shown(room, before, after), comings if room > many else None)
                    self.assertIs(is_shown(room, before, after), room > many)

    def test_an_offer_may_come_again_in_papers(self):
        for stream in ((("come", 1), ("come", 0)), (("come", 0),) * 7 + (("come", 1),), (("come", 0), ("come", 1)) * 200):
            self.assertIs(shown_holds(2, (BEST,), (RATHER_0,), stream), True)
            self.assertIs(shown_holds(1, (BEST,), (RATHER_0,), stream), False)

    def test_all_short_streams_as_papers(self):
        deeds = [("come", 0), ("come", 1), ("come", 2), ("day",), ("gone", 0), ("come", 3)]
        for before, after in editions(702, 12):
            if before[0].offers > 3:
                continue
            for room in (1, 2, 3):
                for many in range(4):
                    for stream in product(deeds, repeat=many):
                        told = right_stream(room, before, after, stream)
                        self.assertIs(shown_holds(room, before, after, stream), told)

    def test_any_value_as_paper(self):
        for before, after in (((BEST,), (RATHER_0,)), ((BOTH, BEST), (BOTH, NONE)), ((BEST,), (BEST,))):
            stream = (("come", 1), ("come", 0), ("come", 1))
            for thing in [stream, *spoilt(stream), *any_values(), (("come", True), ("come", 0))]:
                for room in (1, 2):
                    told = right_stream(room, before, after, thing)
                    self.assertIs(shown_holds(room, before, after, thing), told, thing)

    def test_other_offers_ahead_of_all_else(self):
        three = by_lists(3, ())
        for before, after in (((BEST,), (three,)), ((three,), (BEST,)), ((BEST, three), (BEST, BEST)),
                              ((BEST, BEST), (BEST, three)), ((three, BEST), (three, BEST))):
            for function in (is_shown, first_shown):
                refused(self, OtherOffers, {}, function, 2, before, after)
                refused(self, OtherOffers, {}, function, room=2, before=before, after=after)
            refused(self, OtherOffers, {}, shown_holds, 2, before, after, None)


if __name__ == "__main__":
    unittest.main()
