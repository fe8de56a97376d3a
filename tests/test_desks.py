"""[11.4]: desks.py."""

import random
import unittest

import naive
from samples import (
    BEST, BOTH, NONE, T, TWO, U, deeds_of_trade, is_same, random_choosers, random_stream, random_trade, refused,
)
from test_positions import bad_deeds

from offerstands.desks import Desk
from offerstands.errors import BadDeed, Full, NoName, NothingToUndo
from offerstands.house import House
from offerstands.lists import by_lists
from offerstands.making import first_some
from offerstands.trades import Trade

LEAST = by_lists(2, ((0, 1),))


def seen(desk):
    return (desk.stands_now, desk.stream_now, desk.skylines_now, desk.taken_now)


def right_picture(trade, edition, stream):
    dated = naive.stands(trade, stream)
    return (dated, stream, tuple(naive.skyline(chooser, trade, dated) for chooser in edition),
            tuple(naive.picks_at(chooser, dated) for chooser in edition))


def one_show(trade, room, choosers):
    house = House()
    house.set_up("a", trade, room, choosers)
    return house


class DeskTest(unittest.TestCase):
    def test_worked_example(self):
        house = one_show(T, 1, (BEST,))
        house.add_edition("a", (LEAST,))
        desk = house.desk("a")
        self.assertIsInstance(desk, Desk)
        self.assertEqual(desk.take(("come", 0)), ((0,),))
        refused(self, Full, {"offer": 1}, desk.take, ("come", 1))
        refused(self, Full, {"offer": 1}, desk.take, deed=("come", 1))
        self.assertEqual(desk.take(("come", 0)), ((0,),))
        self.assertEqual(desk.stream_now, (("come", 0), ("come", 0)))

    def test_at_the_beginning(self):
        for choosers in ((BEST,), (BEST, BOTH)):
            desk = one_show(U, 2, choosers).desk(name="a")
            self.assertTrue(is_same(seen(desk), right_picture(U, choosers, ())))

    def test_random_streams(self):
        met = set()
        for seed in range(60):
            chance = random.Random(7400 + seed)
            offers, size = chance.choice((1, 2, 3, 4)), chance.choice((1, 2))
            trade, room = random_trade(chance, offers), chance.choice((1, 2, 3, 5))
            choosers = tuple(random_choosers(offers, size, seed))
            desk, stream, pictures = one_show(trade, room, choosers).desk("a"), (), []
            for deed in random_stream(chance, trade, 30):
                picture = seen(desk)
                longer = naive.stands(trade, (*stream, deed))
                if deed[0] == "come" and len(longer) > room:
                    refused(self, Full, {"offer": deed[1]}, desk.take, deed)
                    self.assertTrue(is_same(seen(desk), picture))
                else:
                    pictures.append(picture)
                    stream = (*stream, deed)
                    self.assertTrue(is_same(desk.take(deed), right_picture(trade, choosers, stream)[3]))
                self.assertTrue(is_same(seen(desk), right_picture(trade, choosers, stream)))
                met.add((len(longer) > room, len(longer) == room and deed[0] == "come" and room < offers))
            for picture in reversed(pictures):
                self.assertIs(desk.undo(), None)
                self.assertTrue(is_same(seen(desk), picture))
            refused(self, NothingToUndo, {}, desk.undo)
            self.assertTrue(is_same(seen(desk), right_picture(trade, choosers, ())))
        self.assertEqual(len(met), 3)

    def test_one_that_stands_may_come_again_where_there_is_no_room(self):
        desk = one_show(Trade((3, 3, 3), (0,)), 2, (TWO, TWO)).desk("a")
        for deed in (("come", 0), ("come", 2), ("day",)):
            desk.take(deed)
        refused(self, Full, {"offer": 1}, desk.take, ("come", 1))
        desk.take(("come", 2))
        self.assertEqual(desk.stands_now, ((0, 2), (2, 3)))
        desk.take(("gone", 0))
        self.assertEqual(desk.take(("come", 1)), ((1, 2), (1, 2)))

    def test_bad_deeds_ahead_of_full(self):
        for trade in (T, U):
            desk = one_show(trade, 1, (BEST,)).desk("a")
            desk.take(("come", 0))
            picture = seen(desk)
            for value in bad_deeds(trade):
                refused(self, BadDeed, {"thing": value}, desk.take, value)
                refused(self, BadDeed, {"thing": value}, desk.take, deed=value)
                self.assertTrue(is_same(seen(desk), picture))

    def test_desks_are_apart_from_each_other(self):
        house = one_show(T, 2, (BEST,))
        one, other = house.desk("a"), house.desk("a")
        one.take(("come", 1))
        self.assertTrue(is_same(seen(other), right_picture(T, (BEST,), ())))
        self.assertEqual(len(house), 1)


class MoveOnTest(unittest.TestCase):
    def test_a_desk_goes_by_its_edition_till_it_moves_on(self):
        """Editions that are let in because there is no room for what they are unlike of: nothing becomes otherwise."""
        house = one_show(U, 1, (BEST, BOTH))
        desk = house.desk("a")
        house.add_edition("a", (LEAST, BEST))
        desk.take(("come", 0))
        self.assertTrue(is_same(seen(desk), right_picture(U, (BEST, BOTH), (("come", 0),))))
        self.assertIs(desk.move_on(), None)
        self.assertTrue(is_same(seen(desk), right_picture(U, (LEAST, BEST), (("come", 0),))))
        house.undo()
        desk.take(("day",))
        desk.move_on()
        self.assertTrue(is_same(seen(desk), right_picture(U, (BEST, BOTH), (("come", 0), ("day",)))))

    def test_by_which_edition_a_desk_goes(self):
        """Seen by its skyline behind the room's back: choosers that are unlike of what the house lets in later."""
        three = Trade((2, 2, 2), ())
        one, other = first_some(3, (0, 1, 2), 2), first_some(3, (2, 1, 0), 2)
        house = one_show(three, 2, (one,))
        old = house.desk("a")
        house.add_edition("a", (other,))
        new = house.desk("a")
        self.assertEqual([desk._edition for desk in (old, new)], [(one,), (other,)])
        old.move_on()
        house.undo()
        self.assertEqual([desk._edition for desk in (old, new)], [(other,), (other,)])
        new.move_on()
        self.assertEqual([desk._edition for desk in (old, new)], [(other,), (one,)])

    def test_nothing_that_was_told_becomes_otherwise(self):
        for seed in range(40):
            chance = random.Random(7500 + seed)
            trade, room = random_trade(chance, 4), chance.choice((1, 2, 3))
            order = chance.sample(range(4), 4)
            house = one_show(trade, room, (first_some(4, tuple(order), room),))
            desk = house.desk("a")
            house.add_edition("a", (first_some(4, tuple(order[::-1]), room),))
            for deed in random_stream(chance, trade, 25):
                if deed[0] != "come" or len(naive.stands(trade, (*desk.stream_now, deed))) <= room:
                    desk.take(deed)
            picture = seen(desk)
            desk.move_on()
            self.assertTrue(is_same(seen(desk), picture))

    def test_shows_taken_down(self):
        house = one_show(T, 2, (BEST,))
        desk = house.desk("a")
        desk.take(("come", 0))
        house.take_down("a")
        refused(self, NoName, {"name": "a"}, desk.move_on)
        # It still goes along by the edition that it has.
        self.assertEqual(desk.take(("come", 1)), ((1,),))
        house.undo()
        self.assertIs(desk.move_on(), None)
        self.assertEqual(desk.stands_now, ((0, 2), (1, 2)))

    def test_another_show_under_its_name(self):
        house = one_show(T, 2, (BEST,))
        desk = house.desk("a")
        house.take_down("a")
        house.set_up("a", T, 2, (BEST,))
        refused(self, NoName, {"name": "a"}, desk.move_on)
        other = house.desk("a")
        house.undo()
        refused(self, NoName, {"name": "a"}, desk.move_on)
        refused(self, NoName, {"name": "a"}, other.move_on)
        house.undo()
        self.assertIs(desk.move_on(), None)
        refused(self, NoName, {"name": "a"}, other.move_on)
        house.undo()
        refused(self, NoName, {"name": "a"}, desk.move_on)
        # Set up once more, with the same parts, it is another show.
        house.set_up("a", T, 2, (BEST,))
        for made in (desk, other):
            refused(self, NoName, {"name": "a"}, made.move_on)
        self.assertIs(house.desk("a").move_on(), None)

    def test_other_shows_do_not_count(self):
        house = one_show(T, 1, (BEST,))
        house.set_up("b", U, 2, (NONE, NONE))
        desk = house.desk("a")
        house.take_down("b")
        house.set_up("b", T, 1, (BEST,))
        house.add_edition("b", (LEAST,))
        desk.move_on()
        self.assertTrue(is_same(seen(desk), right_picture(T, (BEST,), ())))

    def test_desks_of_trials(self):
        house = one_show(T, 1, (BEST,))
        trial, first = house.trial(), house.desk("a")
        trial.add_edition("a", (LEAST,))
        desk = trial.desk("a")
        house.take_down("a")
        self.assertIs(desk.move_on(), None)
        refused(self, NoName, {"name": "a"}, first.move_on)
        trial.undo()
        trial.undo()
        trial.set_up("a", T, 1, (BEST,))
        refused(self, NoName, {"name": "a"}, desk.move_on)

    def test_all_deeds_at_once(self):
        """Each deed of a trade, behind each other one, with a room for one offer and for two."""
        for room in (1, 2):
            for one in deeds_of_trade(U):
                for other in deeds_of_trade(U):
                    desk = one_show(U, room, (BEST,)).desk("a")
                    desk.take(one)
                    if len(naive.stands(U, (one, other))) > room:
                        refused(self, Full, {"offer": other[1]}, desk.take, other)
                    else:
                        desk.take(other)
                        self.assertTrue(is_same(seen(desk), right_picture(U, (BEST,), (one, other))))


if __name__ == "__main__":
    unittest.main()
