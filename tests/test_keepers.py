"""[8.1] to [8.3]: keepers.py."""

import random
import unittest

import naive
from samples import (
    BEST, BOTH, LENDERS, NONE, T, TAKERS, U, deeds_of_trade, is_same, random_choosers, random_stream,
    refused,
)
from test_plans import GREAT, right_barred, small_houses
from test_positions import SHORT, bad_deeds

from offerstands.errors import BadDeed, CannotKeep, NothingToUndo, OtherOffers
from offerstands.keepers import Keeper
from offerstands.lists import by_lists
from offerstands.plans import least_waiting, waiting_holds
from offerstands.trades import Trade
from offerstands.waits import burden_of, is_keeping


def seen(keeper):
    return (keeper.standing_now, keeper.kept_word, keeper.waiting_now, keeper.deeds_past)


def keepers(seed):
    """Sides and a trade, with the least number that can be kept, and with the next one."""
    for near, far, trade in small_houses(seed):
        least = least_waiting(near, far, trade)
        for number in (least, least + 1):
            yield near, far, trade, number


class KeeperTest(unittest.TestCase):
    def test_worked_example(self):
        keeper = Keeper(BEST, BOTH, T, 1)
        self.assertIn(keeper.take(("come", 0)), ((), (0,)))
        kept = keeper.take(deed=("come", 1))
        self.assertIn(kept, ((0,), (1,)))
        self.assertEqual(keeper.standing_now, ((0, 2), (1, 2)))
        self.assertEqual(keeper.waiting_now, (1,) if kept == (0,) else ())
        self.assertEqual(keeper.deeds_past, (("come", 0), ("come", 1)))
        self.assertIs(keeper.undo(), None)
        self.assertEqual((keeper.standing_now, keeper.deeds_past), (((0, 2),), (("come", 0),)))

    def test_at_the_beginning(self):
        for near, far, trade, number in list(keepers(551))[::3]:
            self.assertTrue(is_same(seen(Keeper(near, far, trade, number)), ((), (), (), ())))
            named = Keeper(near=near, far=far, trade=trade, number=number)
            self.assertTrue(is_same(seen(named), ((), (), (), ())))

    def test_cannot_keep_just_below_the_least_waiting(self):
        tried = 0
        for near, far, trade in small_houses(552):
            for number in range(least_waiting(near, far, trade)):
                for _ in range(2):
                    with self.assertRaises(CannotKeep) as caught:
                        Keeper(near, far, trade, number)
                    paper = caught.exception.paper
                    self.assertEqual(list(vars(caught.exception)), ["paper"])
                    self.assertEqual(paper[0], "barred")
                    self.assertTrue(right_barred(near, far, trade, number, paper[1]))
                    self.assertIs(waiting_holds(near, far, trade, number, paper), True)
                tried += 1
        self.assertGreater(tried, 5)

    def look_at(self, keeper, near, far, trade, number, before, kept):
        """What is kept behind a deed is agreed, has all that was kept and stands, and few wait beside it."""
        dated = naive.stands(trade, keeper.deeds_past)
        standing = naive.stand_in(dated)
        self.assertTrue(is_same(seen(keeper)[:2], (dated, kept)))
        self.assertTrue(naive.is_agreed(near, far, kept) and set(kept) <= set(standing))
        self.assertTrue(set(before) & set(standing) <= set(kept))
        self.assertEqual(keeper.waiting_now, naive.waiting(near, far, (dated, kept)))
        self.assertLessEqual(len(keeper.waiting_now), number)

    def test_word_is_kept_along_random_streams(self):
        chance = random.Random(553)
        for near, far, trade, number in keepers(554):
            stream = random_stream(chance, trade, 30)
            keeper, keeping = Keeper(near, far, trade, number), []
            for deed in stream:
                before = keeper.kept_word
                keeping.append(keeper.take(deed))
                self.look_at(keeper, near, far, trade, number, before, keeping[-1])
            self.assertEqual(keeper.deeds_past, stream)
            self.assertIs(is_keeping(near, far, trade, stream, tuple(keeping)), True)
            self.assertLessEqual(burden_of(near, far, trade, stream, tuple(keeping)), number)

    def test_word_is_kept_along_all_short_streams(self):
        for near, far, trade, number in list(keepers(555)):
            self.go_on(Keeper(near, far, trade, number), near, far, trade, number, 3)

    def go_on(self, keeper, near, far, trade, number, deeds):
        before, picture = keeper.kept_word, seen(keeper)
        for deed in deeds_of_trade(trade) if deeds > 0 else ():
            kept = keeper.take(deed)
            self.look_at(keeper, near, far, trade, number, before, kept)
            self.go_on(keeper, near, far, trade, number, deeds - 1)
            keeper.undo()
            self.assertEqual(seen(keeper), picture)

    def test_undo_to_the_beginning_and_the_same_deeds_again(self):
        chance = random.Random(556)
        for near, far, trade, number in list(keepers(557))[::2]:
            stream = random_stream(chance, trade, 25)
            keeper, pictures = Keeper(near, far, trade, number), []
            for deed in stream:
                pictures.append(seen(keeper))
                keeper.take(deed)
            end = seen(keeper)
            for picture in reversed(pictures):
                self.assertIs(keeper.undo(), None)
                self.assertEqual(seen(keeper), picture)
            refused(self, NothingToUndo, {}, keeper.undo)
            self.assertEqual(seen(keeper), ((), (), (), ()))
            for deed in stream:
                keeper.take(deed)
            self.assertEqual(seen(keeper), end)

    def test_what_is_kept_hangs_on_the_deeds_alone(self):
        chance = random.Random(558)
        for near, far, trade, number in list(keepers(559))[::2]:
            one, other = Keeper(near, far, trade, number), Keeper(near, far, trade, number)
            for deed in random_stream(chance, trade, 20):
                for more in random_stream(chance, trade, 3):
                    other.take(more)
                for _ in range(3):
                    other.undo()
                self.assertEqual(one.take(deed), other.take(deed))
                self.assertEqual(seen(one), seen(other))

    def test_bad_deeds_change_nothing(self):
        for trade in (T, U):
            keeper = Keeper(BEST, BOTH, trade, 1)
            for deeds in ((), (("come", 0), ("come", 1))):
                for deed in deeds:
                    keeper.take(deed)
                before = seen(keeper)
                for value in bad_deeds(trade):
                    refused(self, BadDeed, {"thing": value}, keeper.take, value)
                    refused(self, BadDeed, {"thing": value}, keeper.take, deed=value)
                    self.assertEqual(seen(keeper), before)

    def test_nothing_to_undo(self):
        keeper = Keeper(LENDERS, TAKERS, Trade((1,) * 4, ()), 4)
        refused(self, NothingToUndo, {}, keeper.undo)
        keeper.take(("day",))
        keeper.undo()
        refused(self, NothingToUndo, {}, keeper.undo)

    def test_great_numbers_and_nothing_that_is_taken(self):
        for near, far, trade in ((BEST, BOTH, SHORT), (NONE, BOTH, T), (NONE, NONE, U)):
            keeper = Keeper(near, far, trade, GREAT)
            for deed in deeds_of_trade(trade):
                before = keeper.kept_word
                self.look_at(keeper, near, far, trade, GREAT, before, keeper.take(deed))

    def test_somewhat_more_pledges_than_within_the_limits(self):
        every = naive.every_of(2)
        keeper = Keeper(every, every, Trade((11, 11), ()), 0)
        self.assertEqual(keeper.take(("come", 1)), (1,))

    def test_four_hundred_pledges(self):
        chance = random.Random(550)
        trade = Trade((2, 2, 2, 1), (0, 3))
        every = naive.every_of(4)
        self.assertEqual(len(naive.pledges(every, every, trade)), 375)
        for near, far in ((every, every), random_choosers(4, 2, 636192)):
            least = least_waiting(near, far, trade)
            keeper = Keeper(near, far, trade, least)
            for deed in random_stream(chance, trade, 40):
                before = keeper.kept_word
                self.look_at(keeper, near, far, trade, least, before, keeper.take(deed))

    def test_other_offers(self):
        three, one = by_lists(3, ()), Trade((1,), ())
        for near, far, trade in ((BEST, three, T), (three, BEST, T), (BEST, BOTH, one), (three, three, T)):
            refused(self, OtherOffers, {}, Keeper, near, far, trade, 0)
            refused(self, OtherOffers, {}, Keeper, near=near, far=far, trade=trade, number=0)

    def test_random_houses_with_two_waiting(self):
        """Houses in which one waiting is not enough: word is kept with two."""
        for hard, lives, loose in ((943195, (2, 1, 1, 1), (2,)), (636192, (1, 2, 1, 1), (0, 1, 2))):
            near, far = random_choosers(4, 2, hard)
            trade = Trade(lives, loose)
            self.assertEqual(least_waiting(near, far, trade), 2)
            with self.assertRaises(CannotKeep):
                Keeper(near, far, trade, 1)
            chance, keeper = random.Random(560), Keeper(near, far, trade, 2)
            waited = set()
            for deed in random_stream(chance, trade, 200):
                before = keeper.kept_word
                self.look_at(keeper, near, far, trade, 2, before, keeper.take(deed))
                waited.add(len(keeper.waiting_now))
            self.assertIn(1, waited)


if __name__ == "__main__":
    unittest.main()
