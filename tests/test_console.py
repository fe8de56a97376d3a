"""[12.2]: console.py."""

import random
import unittest

import naive
from samples import BEST, BOTH, NOT_APART, T, TWO, U, any_values, is_same, random_choosers, random_trade, refused
from test_house import LEAST, raised, seen
from test_promises import skylines

from offerstands import errors
from offerstands.console import Console
from offerstands.errors import (
    BadPart, BadPromise, EditionNotApart, InvalidCommand, NameTaken, NoName, NoPromise, NothingToUndo, Shown, Unkept,
)
from offerstands.house import House
from offerstands.lists import by_lists
from offerstands.means import mean_broken
from offerstands.plans import least_waiting
from offerstands.trades import Trade, stream_text

SET_A = "set a 2 trade 2;offer 2 firm;offer 2 firm / chooser 2;-;0;1;1"
QUESTIONS = ("stands", "skyline", "taken", "stream", "lists", "shelf", "notes", "waits", "breaks", "settled", "promises")


def line(*objects):
    return " / ".join(str(thing).replace("\n", ";") for thing in objects)


def sets(rows):
    return " / ".join(" ".join(map(str, row)) or "-" for row in rows)


def dated(rows):
    return " / ".join(" ".join(f"{offer}:{days}" for offer, days in row) or "-" for row in rows)


def promise_words(promise):
    word, told = promise
    if word == "same settled":
        return " ".join(["settled", *map(str, told)])
    return f"{word} {told[0]}/{told[1]}" if word == "breaks" else f"{word} {told}"


def all_told(console):
    """All that a console answers without being changed."""
    names = console.run("names")
    rows = [(names, seen(console.house_now()))]
    for name in names.split(" ") if names != "-" else []:
        rows.append(tuple(console.run(f"{word} {name}") for word in QUESTIONS))
    return rows


class ConsoleTest(unittest.TestCase):
    def talk(self, console, *rows):
        for command, answer in rows:
            self.assertEqual(console.run(command), answer, command)

    def test_worked_example(self):
        self.talk(
            Console(), (SET_A, "ok"), ("take a +0", "0"), ("take a .", "0"), ("take a +1", "1"), ("stands a", "0:1 1:2"),
            ("skyline a", "1:2"), ("stream a", "+0 . +1"), ("lists a", "1"), ("shelf a", "2"), ("notes a", "6"),
            ("waits a", "one"), ("promise a shelf 1", "unkept"), ("edition a chooser 2;-;0;1;0", "shown +0 +1"),
            ("back a", "ok"), ("stands a", "0:1"),
        )

    def test_at_the_beginning(self):
        console = Console()
        self.talk(console, ("names", "-"))
        refused(self, NothingToUndo, {}, console.run, "undo")
        self.assertEqual(console.house_now(), House())
        self.assertEqual(console.run(command=SET_A), "ok")
        self.talk(console, ("stands a", "-"), ("skyline a", "-"), ("taken a", "-"), ("stream a", "0"), ("promises a", "-"),
                  ("names", "a"), ("settled a", "one"), ("best a near", "one"), ("best a far", "one"), ("breaks a", "one"))

    def test_two_choosers(self):
        console = Console()
        self.talk(
            console, (f"set b 2 {line(U, BEST, BOTH)}", "ok"), ("taken b", "- / -"), ("skyline b", "- / -"),
            ("settled b", "-"), ("best b near", "-"), ("take b +0", "0 / 0"), ("take b +1", "1 / 0 1"),
            ("skyline b", "0:2 1:2 / 0:2 1:2"), ("settled b", "1"), ("best b far", "1"), ("take b -1", "0 / 0"),
            ("lists b", "1 / 2"), ("waits b", "1"), ("breaks b", "1/2"), ("shelf b", "2"), ("notes b", "9"),
            ("stream b", "+0 +1 -1"), ("back b", "ok"), ("back b", "ok"), ("back b", "ok"), ("back b", "none"),
            (f"set a 3 {line(Trade((1, 1, 1), ()), by_lists(3, ((0, 1, 2),)), by_lists(3, ((2, 1, 0),)))}", "ok"),
            ("take a +0", "0 / 0"), ("take a +1", "0 / 1"), ("take a +2", "0 / 2"), ("settled a", "0 / 1 / 2"),
            ("best a near", "0"), ("best a far", "2"), ("names", "a b"),
        )

    def test_promises(self):
        console = Console()
        self.talk(
            console, (f"set a 1 {line(T, BEST, BOTH)}", "ok"), ("promise a lists 2", "ok"), ("promise a lists 1", "unkept"),
            ("promise a settled 0 1", "ok"), ("promise a settled", "ok"), ("promise a breaks 2/8", "ok"),
            ("promise a breaks 1/5", "unkept"), ("promise a waits 1", "ok"), ("promise a waits 0", "unkept"),
            ("promise a shelf 2", "ok"), ("promise a notes 6", "ok"), ("promise a notes 5", "unkept"),
            ("promises a", "lists 2 / settled 0 1 / settled / breaks 2/8 / waits 1 / shelf 2 / notes 6"),
            (f"edition a {line(LEAST, BOTH)}", "unkept"), ("release a settled 0 1", "ok"),
            (f"edition a {line(LEAST, BOTH)}", "ok"), ("release a breaks 2/8", "ok"),
            ("promises a", "lists 2 / settled / waits 1 / shelf 2 / notes 6"),
        )
        for command in ("release a breaks 2/8", "release a breaks 1/4", "release a lists 1", "promise a lists 2",
                        "promise a lists -1", "promise a settled 2", "promise a settled 0 2", "promise a breaks -1/4",
                        "release a settled 0", "promise a settled 999999999999"):
            refused(self, InvalidCommand, {}, console.run, command)

    def test_what_cannot_be_asked_apart(self):
        console = Console()
        self.talk(console, (f"set a 2 {line(T, NOT_APART)}", "apart 0"), (f"set a 2 {line(T, BEST, NOT_APART)}", "apart 1"),
                  ("names", "-"), (f"set a 2 {line(T, BEST, BOTH)}", "ok"),
                  (f"edition a {line(NOT_APART, NOT_APART)}", "apart 0"), (f"edition a {line(BEST, NOT_APART)}", "apart 1"))
        self.assertEqual(console.house_now().editions("a"), ((BEST, BOTH),))

    def test_room(self):
        console = Console()
        self.talk(console, (SET_A.replace("a 2", "a 1"), "ok"), ("edition a chooser 2;-;0;1;0", "ok"), ("take a +0", "0"),
                  ("take a +1", "full"), ("stands a", "0:2"), ("take a +0", "0"), ("take a .", "0"), ("take a .", "-"),
                  ("take a +1", "1"), ("move a", "ok"), ("stream a", "+0 +0 . . +1"))

    def test_desks_with_their_shows(self):
        console = Console()
        self.talk(console, (SET_A, "ok"), ("take a +0", "0"), (SET_A.replace("a 2", "b 1"), "ok"), ("take b +1", "1"),
                  ("down a", "ok"))
        refused(self, NoName, {"name": "a"}, console.run, "stream a")
        self.talk(console, ("undo", "ok"), ("stream a", "0"), ("stream b", "+1"), ("take a +1", "1"), ("down a", "ok"),
                  (SET_A.replace("a 2", "a 1"), "ok"), ("stream a", "0"), ("take a .", "-"), ("undo", "ok"))
        refused(self, NoName, {"name": "a"}, console.run, "stream a")
        self.talk(console, ("undo", "ok"), ("stream a", "0"), ("stream b", "+1"), ("undo", "ok"))
        refused(self, NoName, {"name": "b"}, console.run, "stream b")
        self.talk(console, ("names", "a"), ("undo", "ok"), ("names", "-"))
        refused(self, NothingToUndo, {}, console.run, "undo")

    def test_desks_stay_as_they_are(self):
        console = Console()
        self.talk(console, (SET_A.replace("a 2", "a 1"), "ok"), ("take a +0", "0"), ("edition a chooser 2;-;0;1;0", "ok"),
                  ("promise a lists 1", "ok"), ("take a .", "0"), ("undo", "ok"), ("undo", "ok"), ("stream a", "+0 ."),
                  ("move a", "ok"), ("stream a", "+0 ."), ("back a", "ok"), ("stream a", "+0"))
        self.assertEqual(len(console.house_now()), 1)

    def test_house_now_is_a_trial(self):
        console = Console()
        console.run(SET_A)
        house = console.house_now()
        self.assertEqual(house.log(), console.house_now().log())
        house.take_down("a")
        self.assertEqual(console.run("names"), "a")
        console.run("down a")
        house.undo()
        self.assertEqual(house.names(), ("a",))


class FormsTest(unittest.TestCase):
    def ready(self):
        console = Console()
        console.run(f"set a 2 {line(U, BEST, BOTH)}")
        console.run("promise a lists 2")
        console.run("take a +0")
        return console

    def test_no_strings_and_no_commands(self):
        console = self.ready()
        before = all_told(console)
        for value in any_values() + [b"names", ["names"], ("names",), "Names", "NAMES", " names", "names ", "names a",
                                     "undo a", "undo ", "", " ", "\n", "names\n", "a", "set", "stream", "quit a"]:
            if not (type(value) is str and value == "take a +0"):
                refused(self, InvalidCommand, {}, console.run, value)
        self.assertEqual(all_told(console), before)

    def test_wrong_forms_ahead_of_names(self):
        """Of a name under which a show is kept, and of one under which none is."""
        console = self.ready()
        before = all_told(console)
        wrong = ["take {} +00", "take {} 0", "take {} + 0", "take {} +0 +1", "take {}", "take {} ..", "take {} +x",
                 "take {} +10", "take {} *0", "take {} -", "take {} day", "take {} 0+", "best {}", "best {} Near",
                 "best {} near far", "best {} left", "promise {}", "promise {} lists", "promise {} lists 1 2",
                 "promise {} lists x", "promise {} lists +1", "promise {} lists 01", "promise {} lists -0",
                 "promise {} lists 1.0", "promise {} lists 1000000000000", "promise {} lists -1000000000000",
                 "promise {} breaks 1", "promise {} breaks 1/0", "promise {} breaks 1/-1", "promise {} breaks 1/2/3",
                 "promise {} breaks 1 / 2", "promise {} breaks 01/2", "promise {} breaks /", "promise {} breaks 1/",
                 "promise {} breaks 1/1000000000000", "promise {} settled 1 0", "promise {} settled 0 0",
                 "promise {} settled -1", "promise {} settled x", "promise {} settled 0,1", "promise {} settled 00",
                 "promise {} same settled", "promise {} Lists 1", "promise {} waits", "promise {} rooms 1",
                 "release {}", "release {} lists", "release {} settled 2 1", "release {} breaks 1", "edition {}",
                 "set {}", "set {} 2", "set {} x trade 1", "set {} +2 trade 1", "set {} 02 trade 1", "set {} -0 trade 1",
                 "set {} 1000000000000 trade 1", "set {} trade 1", "down {} a", "back {} 1", "move {} on", "stands {} now",
                 "skyline {} x", "taken {} x", "stream {} x", "lists {} 1", "shelf {} 1", "notes {} 1", "waits {} 1",
                 "breaks {} 1/2", "settled {} 0", "promises {} x", "names {}", "undo {}", "Take {} +0", "TAKE {} +0",
                 "take  {} +0", "take {}  +0", " take {} +0", "take {} +0 ", "stream {} ", "down {}\n", "stream\n{}",
                 "edition {} \n", "edition {}  ", "set {} 2 ", "edition {} chooser 2;-;0;1;1\n", "promise {} settled 0  1"]
        for form in wrong:
            for name in ("a", "b"):
                refused(self, InvalidCommand, {}, console.run, form.format(name))
        for name in ("A", "abcdefghi", "a1", "1", "-", "a;", "\u00e4", "ab-c"):
            for form in ("stream {}", "take {} +0", f"set {{}} 2 {line(U, BEST)}", "promise {} lists 2", "down {}",
                         f"edition {{}} {line(BEST, BOTH)}", "best {} near"):
                refused(self, InvalidCommand, {}, console.run, form.format(name))
        self.assertEqual(all_told(console), before)

    def test_names_behind_the_form_ahead_of_all_else(self):
        console = self.ready()
        before = all_told(console)
        for form in ("take b +9", "take b .", "take b -1", "best b far", "promise b lists -1", "promise b breaks -1/4",
                     "promise b settled 99", "promise b settled", "release b waits 999999999999", "edition b x",
                     "edition b / / ;", "down b", "back b", "move b", "stands b", "skyline b", "taken b", "stream b",
                     "lists b", "shelf b", "notes b", "waits b", "breaks b", "settled b", "promises b", "best b near",
                     "promise b notes -999999999999"):
            refused(self, NoName, {"name": "b"}, console.run, form)
            refused(self, NoName, {"name": "abcdefgh"}, console.run, form.replace(" b", " abcdefgh", 1))
        for form in ("set a 0 x", "set a -5 trade 1", "set a 2 / /", SET_A, f"set a 999999999999 {line(T, NOT_APART)}"):
            refused(self, NameTaken, {"name": "a"}, console.run, form)
        self.assertEqual(all_told(console), before)

    def test_what_is_not_as_told_behind_the_names(self):
        console = self.ready()
        before = all_told(console)
        two, one, six = line(U), line(BEST), line(by_lists(6, ()))
        for form in (
                f"set b 0 {two} / {one}", f"set b -1 {two} / {one}", f"set b 2 {two}", f"set b 2 {one}",
                f"set b 2 {one} / {two}", f"set b 2 {two} / {one} / {one} / {one}", f"set b 2 {two} / {line(TWO)}",
                f"set b 2 {two} / {one} / {line(TWO)}", f"set b 2 {two} / {six}", f"set b 2 {two} {one}",
                f"set b 2 {two} // {one}", f"set b 2 {two} / / {one}", f"set b 2 / {two} / {one}", f"set b 2 {two} / {one} /",
                f"set b 2 {two}; / {one}", f"set b 2 {two} / {one};", "set b 2 trade", "set b 2 trade 2;offer 2 firm",
                f"set b 2 {line(Trade((1,) * 7, ()))} / {one}", f"set b 2 {two.upper()} / {one}", f"set b 2 {two}/{one}",
                f"edition a {one}", f"edition a {one} / {one} / {one}", f"edition a {line(TWO, TWO)}", "edition a x",
                f"edition a {two} / {one} / {one}", f"edition a {one} / {two}", f"edition a {line(NOT_APART, TWO)}",
                f"edition a {one} / {one};", "take a +2", "take a +9", "take a -0", "take a -2", "promise a lists -1",
                "promise a breaks -1/2", "promise a settled 2", "promise a lists 2", "release a lists 3", "release a settled",
        ):
            refused(self, InvalidCommand, {}, console.run, form)
        self.assertEqual(all_told(console), before)

    def test_room_below_one_behind_a_chooser_that_cannot_be_asked_apart(self):
        console = Console()
        refused(self, InvalidCommand, {}, console.run, f"set b 0 {line(U, NOT_APART)}")
        self.assertEqual(console.run(f"set b 1 {line(U, NOT_APART)}"), "apart 0")

    def test_twelve_figures(self):
        console = self.ready()
        for command, answer in (("promise a shelf 999999999999", "ok"), ("promise a breaks 999999999999/999999999999", "ok"),
                                (f"set b 999999999999 {line(U, BEST)}", "ok")):
            self.assertEqual(console.run(command), answer)
        self.assertEqual(console.run("promises a"), "lists 2 / shelf 999999999999 / breaks 999999999999/999999999999")
        self.assertEqual(console.house_now().room_of("b"), 999999999999)


class Beside:
    """A house, and streams of desks, that make the same changes as a console."""

    def __init__(self):
        self.house, self.streams = House(), {}

    def change(self, kind, name, *values):
        """The answer, or the error, that the same change of the house brings."""
        told = raised(getattr(self.house, kind), name, *values)
        if told is None:
            return "ok"
        if told[0] in (BadPart, BadPromise, NoPromise):
            return InvalidCommand
        if told[0] is Shown:
            return "shown " + stream_text(told[1]["stream"])
        if told[0] is EditionNotApart:
            return f"apart {told[1]['number']}"
        if told[0] is Unkept:
            return "unkept"
        return NameTaken if kind == "set_up" else told[0]

    def tend(self):
        names = self.house.names()
        self.streams = {name: self.streams.get(name, ()) for name in names}

    def take(self, name, deed):
        trade = self.house.trade_of(name)
        longer = naive.stands(trade, (*self.streams[name], deed))
        if deed[0] == "come" and len(longer) > self.house.room_of(name):
            return "full"
        self.streams[name] += (deed,)
        return self.ask("taken", name)

    def ask(self, word, name):
        trade, edition = self.house.trade_of(name), self.house.editions(name)[-1]
        stood = naive.stands(trade, self.streams[name])
        if word in ("waits", "breaks", "settled", "near", "far") and len(edition) == 1:
            return "one"
        if word == "breaks":
            return "/".join(map(str, mean_broken(*edition, trade)))
        return {
            "stands": lambda: dated([stood]), "stream": lambda: stream_text(self.streams[name]),
            "skyline": lambda: dated([naive.skyline(chooser, trade, stood) for chooser in edition]),
            "taken": lambda: sets([naive.picks_at(chooser, stood) for chooser in edition]),
            "lists": lambda: " / ".join(str(naive.many_lists(chooser)) for chooser in edition),
            "shelf": lambda: str(max(map(len, skylines(edition[0], trade)))),
            "notes": lambda: str(len(skylines(edition[0], trade))),
            "waits": lambda: str(least_waiting(*edition, trade)),
            "settled": lambda: sets(naive.settled_sets(*edition, naive.stand_in(stood))),
            "near": lambda: sets([naive.best_settled(*edition, naive.stand_in(stood))]),
            "far": lambda: sets([naive.best_settled(*edition[::-1], naive.stand_in(stood))]),
            "promises": lambda: " / ".join(map(promise_words, self.house.promises(name))) or "-",
        }[word]()


class BesideAHouseTest(unittest.TestCase):
    def test_the_same_changes(self):
        met = {}
        for seed in range(120):
            chance = random.Random(7600 + seed)
            console, beside = Console(), Beside()
            for _ in range(60):
                command, right = self.random_command(chance, beside)
                if isinstance(right, str):
                    self.assertEqual(console.run(command), right, command)
                else:
                    with self.assertRaises(errors.OfferError) as caught:
                        console.run(command)
                    self.assertIs(type(caught.exception), right, command)
                self.assertTrue(is_same(seen(console.house_now()), seen(beside.house)))
                met[command.split(" ")[0], right.split(" ")[0] if isinstance(right, str) and len(right) > 3 else
                    right if isinstance(right, type) else "-"] = True
            for name in beside.house.names():
                for word in QUESTIONS:
                    self.assertEqual(console.run(f"{word} {name}"), beside.ask(word, name), word)
                for side in ("near", "far"):
                    self.assertEqual(console.run(f"best {name} {side}"), beside.ask(side, name))
        for row in (("take", "full"), ("promise", "unkept"), ("edition", "shown"), ("edition", "apart"), ("back", "none"),
                    ("set", NameTaken), ("take", NoName), ("promise", InvalidCommand), ("release", InvalidCommand),
                    ("undo", NothingToUndo), ("set", InvalidCommand)):
            self.assertIn(row, met)

    def random_command(self, chance, beside):
        """A command, and the answer or the error that is right; the house and streams beside are changed."""
        house, name = beside.house, chance.choice(("a", "a", "a", "b", "b", "abcdefgh"))
        there = name in house.names()
        kind = chance.choice(("set", "set", "edition", "promise", "promise", "release", "down", "undo", "take", "take",
                              "take", "take", "take", "take", "back", "move", "best", "ask", "ask", "ask"))
        if kind == "undo":
            told = raised(house.undo)
            beside.tend()
            return "undo", "ok" if told is None else told[0]
        if kind == "set":
            return self.random_set(chance, beside, name)
        if not there:
            return chance.choice((f"take {name} .", f"stands {name}", f"promise {name} lists 1")), NoName
        if kind == "down":
            told = beside.change("take_down", name)
            beside.tend()
            return f"down {name}", told
        if kind in ("edition", "promise", "release"):
            return self.random_change(chance, beside, kind, name)
        return self.at_desk(chance, beside, kind, name)

    def random_set(self, chance, beside, name):
        offers = chance.choice((1, 2, 2, 3))
        trade, room = random_trade(chance, offers, 2), chance.choice((0, 1, 1, 2, 3))
        size = chance.choice((1, 2, 2))
        choosers = tuple(random_choosers(offers, size, chance.randrange(10 ** 6)))
        if chance.random() < 0.1:
            choosers = chance.choice(((NOT_APART,), (TWO, TWO), choosers * 3))
        if name in beside.house.names():
            return f"set {name} {room} {line(trade, *choosers)}", NameTaken
        told = beside.change("set_up", name, trade, room, choosers)
        beside.tend()
        return f"set {name} {room} {line(trade, *choosers)}", told

    def random_change(self, chance, beside, kind, name):
        trade, edition = beside.house.trade_of(name), beside.house.editions(name)[-1]
        offers = len(trade.lives)
        if kind == "edition":
            choosers = edition if chance.random() < 0.4 else tuple(
                random_choosers(offers, len(edition), chance.randrange(10 ** 6)))
            if chance.random() < 0.15:
                choosers = choosers[:-1] + (NOT_APART,)
            return f"edition {name} {line(*choosers)}", beside.change("add_edition", name, choosers)
        promise = chance.choice((
            ("lists", chance.randint(-1, 4)), ("shelf", chance.randint(0, 3)), ("notes", chance.randint(1, 20)),
            ("waits", chance.randint(-1, 2)), ("breaks", (chance.randint(-1, 2), chance.randint(1, 4))),
            ("same settled", chance.choice(naive.sets_of(offers + 1)))))
        if kind == "release" and beside.house.promises(name) and chance.random() < 0.7:
            promise = chance.choice(beside.house.promises(name))
        method = "make_promise" if kind == "promise" else "release_promise"
        return f"{kind} {name} {promise_words(promise)}", beside.change(method, name, promise)

    def at_desk(self, chance, beside, kind, name):
        if kind == "back":
            told = "ok" if beside.streams[name] else "none"
            beside.streams[name] = beside.streams[name][:-1]
            return f"back {name}", told
        if kind == "move":
            return f"move {name}", "ok"
        if kind == "best":
            side = chance.choice(("near", "far"))
            return f"best {name} {side}", beside.ask(side, name)
        if kind == "ask":
            word = chance.choice(QUESTIONS)
            return f"{word} {name}", beside.ask(word, name)
        trade = beside.house.trade_of(name)
        deed = chance.choice([("come", x) for x in range(len(trade.lives) + 1)] * 2
                             + [("day",)] * 2 + [("gone", x) for x in range(len(trade.lives))])
        command = f"take {name} {stream_text((deed,))}"
        if deed[0] != "day" and (deed[1] >= len(trade.lives) or (deed[0] == "gone" and deed[1] not in trade.loose)):
            return command, InvalidCommand
        return command, beside.take(name, deed)


if __name__ == "__main__":
    unittest.main()
