"""[11.1], [11.3], [11.5]: house.py."""

import random
import unittest

import naive
from samples import (
    BEST, BOTH, NONE, NOT_APART, T, TWO, U, any_values, freeze, is_same, random_choosers, random_trade, refused, spoilt,
)
from test_gates import first_stream
from test_promises import is_kept, promises_for, right_fault, right_promise

from offerstands import errors
from offerstands.choosers import Chooser
from offerstands.errors import (
    BadChange, BadName, BadPart, BadPromise, EditionNotApart, NoName, NoPromise, NothingToUndo, Shown, Unkept,
)
from offerstands.house import House
from offerstands.lists import apart_holds, by_lists, is_apart
from offerstands.trades import Trade

LEAST = by_lists(2, ((0, 1),))
ONE = Trade((1, 1), ())


def seen(house):
    """All that a house tells."""
    rows = [(name, house.trade_of(name), house.room_of(name), house.editions(name), house.promises(name))
            for name in house.names()]
    return (house.names(), rows, house.log(), len(house))


def raised(function, *values, **named):
    """The error that a call raises, with its attributes; None if it raises none."""
    try:
        function(*values, **named)
    except errors.OfferError as error:
        return (type(error), vars(error))
    return None


class Model:
    """A house word by word: each change copies all shows."""

    def __init__(self):
        self.shows, self.past, self.changes = {}, [], []

    def change(self, name, show, change):
        self.past.append((dict(self.shows), list(self.changes)))
        if show is None:
            del self.shows[name]
        else:
            self.shows[name] = show
        self.changes.append(change)

    def set_up(self, name, trade, room, choosers):
        if type(name) is not str or not 1 <= len(name) <= 8 or not all("a" <= x <= "z" for x in name):
            return (BadName, {"name": name})
        if name in self.shows:
            return (BadName, {"name": name})
        if not isinstance(trade, Trade):
            return (BadPart, {"part": "trade"})
        if type(room) is not int or room < 1:
            return (BadPart, {"part": "room"})
        error = self.no_edition(trade, (1, 2), choosers)
        if error is None:
            show = (trade, room, (choosers,), ())
            self.change(name, show, ("set up", name, str(trade), room, tuple(map(str, choosers))))
        return error

    def no_edition(self, trade, many, choosers):
        if type(choosers) is not tuple or len(choosers) not in many or not all(
                isinstance(chooser, Chooser) and chooser.offers == len(trade.lives) for chooser in choosers):
            return (BadPart, {"part": "choosers"})
        for number, chooser in enumerate(choosers):
            if not naive.is_path_independent(chooser):
                return (EditionNotApart, {"number": number, "paper": None})
        return None

    def add_edition(self, name, choosers):
        if type(name) is not str or name not in self.shows:
            return (NoName, {"name": name})
        trade, room, editions, promises = self.shows[name]
        error = self.no_edition(trade, (len(editions[-1]),), choosers)
        if error is not None:
            return error
        stream = first_stream(room, editions[-1], choosers)
        if stream is not None:
            return (Shown, {"stream": stream})
        for promise, before in promises:
            if not is_kept(trade, choosers, promise, before):
                return (Unkept, {"promise": promise, "fault": None})
        show = (trade, room, (*editions, choosers), promises)
        return self.change(name, show, ("edition", name, tuple(map(str, choosers))))

    def make_promise(self, name, promise):
        if type(name) is not str or name not in self.shows:
            return (NoName, {"name": name})
        trade, room, editions, promises = self.shows[name]
        made = [row[0] for row in promises]
        if not right_promise(trade, len(editions[-1]), promise) or promise in made:
            return (BadPromise, {"promise": promise})
        if not is_kept(trade, editions[-1], promise, editions[-1]):
            return (Unkept, {"promise": promise, "fault": None})
        show = (trade, room, editions, (*promises, (promise, editions[-1])))
        return self.change(name, show, ("promise", name, promise))

    def release_promise(self, name, promise):
        if type(name) is not str or name not in self.shows:
            return (NoName, {"name": name})
        trade, room, editions, promises = self.shows[name]
        rows = tuple(row for row in promises if not is_same(row[0], promise))
        if rows == promises:
            return (NoPromise, {"promise": promise})
        return self.change(name, (trade, room, editions, rows), ("release", name, promise))

    def take_down(self, name):
        if type(name) is not str or name not in self.shows:
            return (NoName, {"name": name})
        return self.change(name, None, ("take down", name))

    def undo(self):
        if not self.past:
            return (NothingToUndo, {})
        self.shows, self.changes = self.past.pop()
        return None

    def seen(self):
        names = tuple(sorted(self.shows))
        rows = [(name, *self.shows[name][:3], tuple(promise for promise, _ in self.shows[name][3])) for name in names]
        return (names, rows, tuple(self.changes), len(self.changes))


def gathered(house, name):
    """The trade, the room and the edition in use of a show, None if there is none."""
    if name in house.names():
        return house.trade_of(name), house.room_of(name), house.editions(name)[-1]
    return None


def random_change(chance, house):
    """A method and what it is called with; often right, often not."""
    name = chance.choice(("a", "a", "a", "a", "b", "b", "b", "abcdefgh", "A", chance.choice(("abcdefghi", "", 0, None))))
    kind = chance.choice(("set_up", "set_up", "add_edition", "add_edition", "make_promise", "make_promise",
                          "make_promise", "release_promise", "take_down", "undo"))
    there = gathered(house, name)
    if kind == "undo" or (kind == "take_down" and chance.random() < 0.6):
        return "undo", ()
    if kind == "set_up" and there is not None and chance.random() < 0.8:
        kind = "add_edition"
    if kind == "take_down":
        return kind, (name,)
    if kind == "set_up":
        offers = chance.choice((1, 2, 2, 3))
        trade = chance.choice((T, U, ONE, random_trade(chance, offers, 2), None, (1, 2)))
        offers = len(trade.lives) if isinstance(trade, Trade) else 2
        room = chance.choice((1, 1, 1, 1, 2, 2, 3, 0, True, "1", 10 ** 12))
        return kind, (name, trade, room, random_edition(chance, offers, chance.choice((1, 2, 2))))
    if there is None:
        return kind, (name, chance.choice(((BEST,), ("lists", 1), None, 0)))
    trade, room, edition = there
    if kind == "add_edition":
        return kind, (name, next_edition(chance, trade, room, edition))
    made = list(house.promises(name))
    rows = promises_for(trade, edition) + made + [("lists", True), ("waits", 9), None, ["lists", 3]]
    if kind == "release_promise":
        rows = made * 3 + rows[-8:]
    elif chance.random() < 0.4:
        rows = [("same settled", tuple(range(len(trade.lives)))), ("notes", 6), ("shelf", 2), ("lists", 1), ("lists", 2)]
    return kind, (name, chance.choice(rows))


def random_edition(chance, offers, many):
    if chance.random() < 0.15:
        return chance.choice(((), [BEST], (BEST, BEST, BEST), (NOT_APART,), (BEST, NOT_APART), (TWO, TWO), None, (T,)))
    return tuple(random_choosers(offers, many, chance.randrange(10 ** 6)))


def next_edition(chance, trade, room, edition):
    """An edition that is like the one in use of all sets for which there is room, or another one."""
    if chance.random() < 0.25:
        return random_edition(chance, len(trade.lives), len(edition))
    made = []
    for chooser in edition:
        picks = list(chooser.picks)
        for at, some in enumerate(naive.sets_of(chooser.offers)):
            if len(some) > room:
                picks[at] = chance.choice(naive.parts_of(some))
        other = Chooser(chooser.offers, tuple(picks))
        made.append(other if is_apart(other) or chance.random() < 0.1 else chooser)
    return tuple(made)


class RandomHouseTest(unittest.TestCase):
    def agree(self, house, model):
        self.assertTrue(is_same(seen(house), model.seen()))

    def test_random_changes_beside_a_model(self):
        met = {}
        for seed in range(90):
            chance = random.Random(7200 + seed)
            house, model = House(), Model()
            for _ in range(40):
                kind, values = random_change(chance, house)
                before = freeze(values)
                told = raised(getattr(house, kind), *values)
                right = getattr(model, kind)(*values)
                self.assertEqual(freeze(values), before)
                self.look_at(model, kind, values, told, right)
                self.agree(house, model)
                met[kind, None if right is None else right[0].__name__] = True
            self.assertEqual(House.of(house.log()), house)
            self.assertEqual(House.of(house.log()).log(), house.log())
            while model.past:
                self.assertIs(house.undo(), None)
                model.undo()
                self.agree(house, model)
            refused(self, NothingToUndo, {}, house.undo)
            self.assertEqual(house, House())
        for row in (("set_up", None), ("set_up", "BadName"), ("set_up", "BadPart"), ("set_up", "EditionNotApart"),
                    ("add_edition", None), ("add_edition", "NoName"), ("add_edition", "BadPart"),
                    ("add_edition", "EditionNotApart"), ("add_edition", "Shown"), ("add_edition", "Unkept"),
                    ("make_promise", None), ("make_promise", "NoName"), ("make_promise", "BadPromise"),
                    ("make_promise", "Unkept"), ("release_promise", None), ("release_promise", "NoName"),
                    ("release_promise", "NoPromise"), ("take_down", None), ("take_down", "NoName"), ("undo", None),
                    ("undo", "NothingToUndo")):
            self.assertIn(row, met)

    def look_at(self, model, kind, values, told, right):
        if right is None:
            self.assertIs(told, None, (kind, values, told))
            return
        self.assertIs(told[0], right[0], (kind, values, told, right))
        self.assertEqual(sorted(told[1]), sorted(right[1]))
        for word, value in right[1].items():
            if word == "paper":
                choosers = values[-1]
                self.assertEqual(told[1]["paper"][0], "against")
                self.assertIs(apart_holds(choosers[told[1]["number"]], told[1]["paper"]), True)
            elif word == "fault":
                trade, _, editions, promises = model.shows[values[0]]
                edition = values[1] if kind == "add_edition" else editions[-1]
                before = dict([*promises, (right[1]["promise"], editions[-1])][::-1])[right[1]["promise"]]
                self.assertTrue(right_fault(trade, edition, right[1]["promise"], before, told[1]["fault"]))
            else:
                self.assertTrue(is_same(told[1][word], value))

    def test_trials_go_their_own_way(self):
        for seed in range(12):
            chance = random.Random(7300 + seed)
            house = House()
            for _ in range(15):
                kind, values = random_change(chance, house)
                raised(getattr(house, kind), *values)
            trial, before = house.trial(), seen(house)
            self.assertTrue(trial == house and not trial != house)
            self.assertTrue(is_same(seen(trial), before))
            for _ in range(15):
                kind, values = random_change(chance, trial)
                raised(getattr(trial, kind), *values)
            self.assertTrue(is_same(seen(house), before))
            other, told = house.trial(), seen(trial)
            for _ in range(len(house)):
                house.undo()
            self.assertTrue(is_same(seen(other), before) and is_same(seen(trial), told))
            self.assertEqual(house, House())
            for _ in range(len(trial)):
                trial.undo()
            self.assertEqual(trial, House())


class SetUpTest(unittest.TestCase):
    def test_worked_examples(self):
        house = House()
        self.assertIs(house.set_up("a", T, 1, (BEST,)), None)
        self.assertIs(house.add_edition("a", (LEAST,)), None)
        house.set_up(name="b", trade=T, room=2, choosers=(BEST,))
        refused(self, Shown, {"stream": (("come", 0), ("come", 1))}, house.add_edition, "b", (LEAST,))
        refused(self, Shown, {"stream": (("come", 0), ("come", 1))}, house.add_edition, name="b", choosers=(LEAST,))
        for promise in (("shelf", 1), ("notes", 5)):
            with self.assertRaises(Unkept) as caught:
                house.make_promise("b", promise)
            self.assertTrue(right_fault(T, (BEST,), promise, (BEST,), caught.exception.fault))
            self.assertTrue(is_same(caught.exception.promise, promise))
        self.assertIs(house.make_promise("b", ("lists", 1)), None)
        self.assertEqual(house.promises("b"), (("lists", 1),))
        self.assertEqual(house.editions("a"), ((BEST,), (LEAST,)))

    def test_names(self):
        house = House()
        for name in ("a", "z", "abcdefgh", "same", "zzzzzzzz"):
            house.set_up(name, T, 1, (BEST,))
        self.assertEqual(house.names(), ("a", "abcdefgh", "same", "z", "zzzzzzzz"))
        values = [value for value in any_values() if value not in ("a", "abcdefgh", "lists", "day")]
        for value in values + ["a", "abcdefgh", "abcdefghi", "", "a1", "a b", "a\n", "A", "\u00e4", "a_", ("a",), ["a"]]:
            refused(self, BadName, {"name": value}, house.set_up, value, None, None, None)
            refused(self, BadName, {"name": value}, house.set_up, name=value, trade=T, room=1, choosers=(BEST,))

    def test_bad_parts_in_their_order(self):
        house, three = House(), Trade((1, 1, 1), ())
        for value in any_values() + [(2, 2), BEST, str(T)]:
            if not isinstance(value, Trade):
                refused(self, BadPart, {"part": "trade"}, house.set_up, "a", value, 0, None)
        for value in any_values() + [0, -1, True, "1", (1,)]:
            if type(value) is not int or value < 1:
                refused(self, BadPart, {"part": "room"}, house.set_up, "a", T, value, None)
        for value in any_values() + [(), (BEST, BEST, BEST), [BEST], (BEST, TWO), (TWO,), (T,), (BEST, None), BEST]:
            if not (type(value) is tuple and value in ((BEST,), (BEST, BOTH))):
                refused(self, BadPart, {"part": "choosers"}, house.set_up, "a", T, 1, value)
        refused(self, BadPart, {"part": "choosers"}, house.set_up, "a", three, 1, (NOT_APART,))
        refused(self, BadPart, {"part": "choosers"}, house.set_up, "a", T, 1, (NOT_APART, TWO))
        for choosers, number in (((NOT_APART,), 0), ((BEST, NOT_APART), 1), ((NOT_APART, NOT_APART), 0)):
            with self.assertRaises(EditionNotApart) as caught:
                house.set_up("a", T, 1, choosers)
            self.assertTrue(is_same(caught.exception.number, number))
            self.assertIs(apart_holds(choosers[number], caught.exception.paper), True)
        self.assertTrue(is_same(seen(house), seen(House())))

    def test_six_offers_and_great_rooms(self):
        house = House()
        six = by_lists(6, ((5, 4, 3, 2, 1, 0),))
        house.set_up("a", Trade((9,) * 6, (0,)), 10 ** 12, (six, six))
        self.assertEqual(house.room_of("a"), 10 ** 12)
        self.assertEqual(house.trade_of("a"), Trade((9,) * 6, (0,)))


class NamesTest(unittest.TestCase):
    def test_no_name_ahead_of_all_else(self):
        house = House()
        house.set_up("a", T, 2, (BEST,))
        house.set_up("gone", T, 2, (BEST,))
        house.take_down("gone")
        before = seen(house)
        for value in [value for value in any_values() if value != "a"] + ["gone", "b", "A", ("a",), ["a"]]:
            told = {"name": value}
            refused(self, NoName, told, house.add_edition, value, None)
            refused(self, NoName, told, house.make_promise, value, None)
            refused(self, NoName, told, house.release_promise, value, None)
            for method in (house.take_down, house.trade_of, house.room_of, house.editions, house.promises, house.desk):
                refused(self, NoName, told, method, value)
                refused(self, NoName, told, method, name=value)
        self.assertTrue(is_same(seen(house), before))


class EditionTest(unittest.TestCase):
    def test_errors_in_their_order(self):
        house = House()
        house.set_up("a", T, 2, (BEST, BOTH))
        house.make_promise("a", ("lists", 2))
        house.make_promise("a", ("same settled", (0, 1)))
        before = seen(house)
        for value in any_values() + [(BEST,), (BEST, BOTH, BOTH), [BEST, BOTH], (TWO, TWO), (BEST, T), (NOT_APART, TWO)]:
            refused(self, BadPart, {"part": "choosers"}, house.add_edition, "a", value)
        # What cannot be asked apart is told ahead of the stream that shows it, this ahead of promises.
        for choosers, number in (((BEST, NOT_APART), 1), ((NOT_APART, BOTH), 0)):
            with self.assertRaises(EditionNotApart) as caught:
                house.add_edition("a", choosers)
            self.assertEqual(caught.exception.number, number)
            self.assertIs(apart_holds(choosers[number], caught.exception.paper), True)
        refused(self, Shown, {"stream": (("come", 0),)}, house.add_edition, "a", (BEST, NONE))
        refused(self, Shown, {"stream": (("come", 0), ("come", 1))}, house.add_edition, "a", (LEAST, BOTH))
        self.assertTrue(is_same(seen(house), before))

    def test_the_first_promise_that_would_be_broken(self):
        house = House()
        house.set_up("a", T, 1, (BEST, BOTH))
        for promise in (("lists", 2), ("waits", 1), ("shelf", 2), ("same settled", (0, 1)), ("notes", 6)):
            house.make_promise("a", promise)
        before = seen(house)
        with self.assertRaises(Unkept) as caught:
            house.add_edition("a", (LEAST, BOTH))
        self.assertEqual(caught.exception.promise, ("same settled", (0, 1)))
        self.assertEqual(caught.exception.fault, ("unlike", (0,)))
        with self.assertRaises(Unkept) as caught:
            house.add_edition("a", (BOTH, BOTH))
        self.assertEqual(caught.exception.promise, ("same settled", (0, 1)))
        self.assertTrue(is_same(seen(house), before))
        house.release_promise("a", ("same settled", (0, 1)))
        with self.assertRaises(Unkept) as caught:
            house.add_edition("a", (BOTH, BOTH))
        self.assertEqual(caught.exception.promise, ("notes", 6))
        self.assertIs(house.add_edition("a", (LEAST, BOTH)), None)

    def test_same_settled_speaks_of_the_edition_when_it_was_made(self):
        """Unlike settled sets of both offers are let in behind a promise of one offer alone."""
        house = House()
        house.set_up("a", T, 1, (BEST, BOTH))
        house.make_promise("a", ("same settled", (0,)))
        house.add_edition("a", (LEAST, BOTH))
        house.make_promise("a", ("same settled", (0, 1)))
        with self.assertRaises(Unkept) as caught:
            house.add_edition("a", (BEST, BOTH))
        self.assertEqual(caught.exception.promise, ("same settled", (0, 1)))
        # Released and made again it speaks of what is in use then.
        house.release_promise("a", ("same settled", (0, 1)))
        house.add_edition("a", (BEST, BOTH))
        house.make_promise("a", ("same settled", (0, 1)))
        refused(self, Unkept, {"promise": ("same settled", (0, 1)), "fault": ("unlike", (0,))}, house.add_edition,
                "a", (LEAST, BOTH))
        self.assertEqual(house.promises("a"), (("same settled", (0,)), ("same settled", (0, 1))))


class PromiseTest(unittest.TestCase):
    def test_bad_promises(self):
        house = House()
        house.set_up("a", T, 2, (BEST,))
        house.set_up("b", T, 2, (BEST, BOTH))
        house.make_promise("b", ("breaks", (1, 2)))
        house.make_promise("b", ("same settled", ()))
        before = seen(house)
        made = [worse for row in (("lists", 1), ("breaks", (1, 2)), ("same settled", (0,))) for worse in spoilt(row)]
        for name, many in (("a", 1), ("b", 2)):
            for value in any_values() + made + [("waits", -1), ("lists", 1, 2)]:
                if not right_promise(T, many, value):
                    refused(self, BadPromise, {"promise": value}, house.make_promise, name, value)
        for value in (("breaks", (1, 2)), ("same settled", ())):
            refused(self, BadPromise, {"promise": value}, house.make_promise, "b", value)
            refused(self, BadPromise, {"promise": value}, house.make_promise, name="b", promise=value)
        self.assertTrue(is_same(seen(house), before))
        # The same fraction in other terms is another promise.
        self.assertIs(house.make_promise("b", ("breaks", (2, 4))), None)
        self.assertEqual(house.promises("b"), (("breaks", (1, 2)), ("same settled", ()), ("breaks", (2, 4))))

    def test_made_twice_released_made_again(self):
        house = House()
        house.set_up("a", T, 2, (BEST,))
        house.make_promise("a", ("lists", 1))
        house.make_promise("a", ("shelf", 2))
        refused(self, BadPromise, {"promise": ("lists", 1)}, house.make_promise, "a", ("lists", 1))
        self.assertIs(house.release_promise(name="a", promise=("lists", 1)), None)
        refused(self, NoPromise, {"promise": ("lists", 1)}, house.release_promise, "a", ("lists", 1))
        house.make_promise("a", ("lists", 1))
        self.assertEqual(house.promises("a"), (("shelf", 2), ("lists", 1)))

    def test_no_promise(self):
        house = House()
        house.set_up("a", T, 2, (BEST, BOTH))
        for promise in (("lists", 2), ("breaks", (1, 1)), ("waits", 1), ("same settled", (0, 1))):
            house.make_promise("a", promise)
        made = [worse for promise in house.promises("a") for worse in spoilt(promise)] + [("breaks", (2, 2))]
        before = seen(house)
        for value in any_values() + made:
            if not any(is_same(value, promise) for promise in house.promises("a")):
                refused(self, NoPromise, {"promise": value}, house.release_promise, "a", value)
        self.assertTrue(is_same(seen(house), before))

    def test_just_so_and_broken_by_one(self):
        for promise, broken in ((("lists", 2), ("lists", 1)), (("shelf", 2), ("shelf", 1)), (("notes", 6), ("notes", 5)),
                                (("waits", 1), ("waits", 0)), (("breaks", (2, 8)), ("breaks", (24, 100)))):
            house = House()
            house.set_up("a", T, 2, (BEST, BOTH))
            self.assertIs(house.make_promise("a", promise), None)
            with self.assertRaises(Unkept) as caught:
                house.make_promise("a", broken)
            self.assertTrue(right_fault(T, (BEST, BOTH), broken, (BEST, BOTH), caught.exception.fault))
            self.assertEqual(house.promises("a"), (promise,))


class EqualityTest(unittest.TestCase):
    def made(self, *changes):
        house = House()
        for kind, *values in changes:
            getattr(house, kind)(*values)
        return house

    def test_equal_by_whatever_way(self):
        one = self.made(("set_up", "a", T, 1, (BEST,)), ("set_up", "b", U, 2, (BEST, BOTH)))
        other = self.made(("set_up", "b", U, 2, (BEST, BOTH)), ("set_up", "c", U, 2, (BEST, BOTH)), ("take_down", "c"),
                          ("set_up", "a", T, 1, (BEST,)), ("make_promise", "a", ("lists", 1)),
                          ("release_promise", "a", ("lists", 1)))
        self.assertIs(one == other, True)
        self.assertIs(one != other, False)
        self.assertNotEqual(one.log(), other.log())

    def test_unlike(self):
        first = ("set_up", "a", T, 1, (BEST, BOTH))
        houses = [
            self.made(), self.made(first), self.made(("set_up", "b", T, 1, (BEST, BOTH))),
            self.made(("set_up", "a", U, 1, (BEST, BOTH))), self.made(("set_up", "a", T, 2, (BEST, BOTH))),
            self.made(("set_up", "a", T, 1, (LEAST, BOTH))), self.made(("set_up", "a", T, 1, (BEST,))),
            self.made(first, ("add_edition", "a", (LEAST, BOTH))),
            self.made(first, ("add_edition", "a", (BEST, BOTH))),
            self.made(first, ("make_promise", "a", ("lists", 2))),
            self.made(first, ("make_promise", "a", ("lists", 2)), ("make_promise", "a", ("waits", 1))),
            self.made(first, ("make_promise", "a", ("waits", 1)), ("make_promise", "a", ("lists", 2))),
            self.made(first, ("make_promise", "a", ("same settled", (0,))), ("add_edition", "a", (LEAST, BOTH))),
            # By the edition of "same settled" alone.
            self.made(first, ("add_edition", "a", (LEAST, BOTH)), ("make_promise", "a", ("same settled", (0,)))),
        ]
        for at, one in enumerate(houses):
            for further, other in enumerate(houses):
                self.assertIs(one == other, at == further, (at, further))
        self.assertEqual(houses[-1].editions("a"), houses[-2].editions("a"))
        self.assertEqual(houses[-1].promises("a"), houses[-2].promises("a"))

    def test_equal_to_no_other_value(self):
        house = self.made(("set_up", "a", T, 1, (BEST,)))
        for value in any_values() + [house.log(), House]:
            if not isinstance(value, House):
                self.assertIs(house == value, False)
                self.assertIs(house != value, True)


class LogTest(unittest.TestCase):
    def house(self):
        house = House()
        house.set_up("a", T, 1, (BEST, BOTH))
        house.make_promise("a", ("breaks", (2, 4)))
        house.add_edition("a", (LEAST, BOTH))
        house.make_promise("a", ("same settled", (0, 1)))
        house.release_promise("a", ("breaks", (2, 4)))
        house.set_up("b", U, 2, (NONE,))
        house.take_down("b")
        return house

    def test_log(self):
        house = self.house()
        trade, firm = "trade 2\noffer 2 firm\noffer 2 loose", "trade 2\noffer 2 firm\noffer 2 firm"
        best, least = "chooser 2\n-\n0\n1\n1", "chooser 2\n-\n0\n1\n0"
        both, none = "chooser 2\n-\n0\n1\n0 1", "chooser 2\n-\n-\n-\n-"
        right = (
            ("set up", "a", firm, 1, (best, both)), ("promise", "a", ("breaks", (2, 4))), ("edition", "a", (least, both)),
            ("promise", "a", ("same settled", (0, 1))), ("release", "a", ("breaks", (2, 4))),
            ("set up", "b", trade, 2, (none,)), ("take down", "b"),
        )
        self.assertTrue(is_same(house.log(), right))
        self.assertEqual(len(house), 7)
        made = House.of(right)
        self.assertTrue(made == house and is_same(seen(made), seen(house)))
        self.assertTrue(is_same(seen(House.of(log=right)), seen(house)))
        for many in range(len(right), -1, -1):
            self.assertEqual(House.of(right[:many]), house)
            self.assertTrue(is_same(house.log(), right[:many]))
            self.assertTrue(is_same(seen(made), seen(house)))
            if many > 0:
                house.undo()
                made.undo()

    def test_any_value_as_log(self):
        for value in any_values() + [[], list(self.house().log()), {}, "log"]:
            if type(value) is not tuple:
                refused(self, BadChange, {"number": 0}, House.of, value)
                refused(self, BadChange, {"number": 0}, House.of, log=value)
        self.assertEqual(House.of(()), House())
        changes = [value for value in any_values() if value not in (("set up", "b", "trade 1\noffer 1 firm", 1, (
            "chooser 1\n-\n0",)), ("take down", "a"))]
        for value in changes:
            refused(self, BadChange, {"number": 0}, House.of, (value,))
            refused(self, BadChange, {"number": 7}, House.of, (*self.house().log(), value))

    def test_logs_spoilt_in_each_place(self):
        """The first change that is none or cannot be made is told by its number."""
        log = self.house().log()
        told = {}
        for at, change in enumerate(log):
            for worse in spoilt(change):
                thing = (*log[:at], worse, *log[at + 1:])
                model, number = Model(), None
                for index, row in enumerate(thing):
                    if not self.can_make(model, row):
                        number = index
                        break
                if number is None:
                    self.assertEqual(House.of(thing).log(), tuple(model.changes))
                else:
                    refused(self, BadChange, {"number": number}, House.of, thing)
                told[number is not None and number - at] = True
        self.assertTrue({0, False} <= set(told))
        self.assertGreater(max(told), 0)

    def can_make(self, model, row):
        sizes = {"set up": 5, "edition": 3, "promise": 3, "release": 3, "take down": 2}
        if type(row) is not tuple or not row or type(row[0]) is not str or sizes.get(row[0]) != len(row):
            return False
        values = list(row[1:])
        if row[0] in ("set up", "edition"):
            if type(values[-1]) is not tuple:
                return False
            values[-1] = tuple(self.read(Chooser, text) for text in values[-1])
            if None in list(values[-1]):
                return False
        if row[0] == "set up":
            values[1] = self.read(Trade, values[1])
        method = {"set up": "set_up", "edition": "add_edition", "promise": "make_promise",
                  "release": "release_promise", "take down": "take_down"}[row[0]]
        return getattr(model, method)(*values) is None

    def read(self, kind, text):
        try:
            return kind.read(text)
        except errors.BadText:
            return None

    def test_what_cannot_be_made(self):
        log = self.house().log()
        for at, change in ((0, ("take down", "a")), (0, ("edition", "a", log[2][2])), (1, log[0]), (3, log[1]),
                           (7, ("take down", "b")), (7, ("release", "a", ("breaks", (2, 4)))),
                           (7, ("promise", "a", ("waits", 0))), (7, ("edition", "a", (log[0][4][0], log[0][4][1]))),
                           (7, ("edition", "a", ("chooser 2\n-\n0\n1\n-", log[0][4][1])))):
            refused(self, BadChange, {"number": at}, House.of, (*log[:at], change, *log[at:]))

    def test_a_log_is_of_its_moment(self):
        house = self.house()
        log = house.log()
        house.undo()
        self.assertEqual(len(log), 7)
        self.assertNotEqual(house.log(), log)

    def test_undo_of_each_kind_of_change(self):
        house, pictures = House(), []
        for change in self.house().log():
            pictures.append(seen(house))
            house = House.of((*house.log(), change))
        for picture in reversed(pictures):
            self.assertIs(house.undo(), None)
            self.assertTrue(is_same(seen(house), picture))
        refused(self, NothingToUndo, {}, house.undo)

    def test_shows_taken_down_and_set_up_again(self):
        house = House()
        house.set_up("a", T, 1, (BEST, BOTH))
        house.make_promise("a", ("same settled", (0,)))
        first = seen(house)
        house.take_down("a")
        self.assertEqual(house.names(), ())
        house.set_up("a", U, 2, (NONE,))
        self.assertEqual((house.trade_of("a"), house.promises("a")), (U, ()))
        house.undo()
        house.undo()
        self.assertTrue(is_same(seen(house), first))


if __name__ == "__main__":
    unittest.main()
