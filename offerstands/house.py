"""A house: it keeps shows under names, and lets editions in behind gates ([11.1], [11.5])."""

from offerstands.choosers import Chooser
from offerstands.desks import Desk
from offerstands.errors import (
    BadChange, BadName, BadPart, BadPromise, BadText, EditionNotApart, NoName, NoPromise, NothingToUndo, OfferError,
    Shown, Unkept,
)
from offerstands.gates import first_shown
from offerstands.lists import judge_apart
from offerstands.promises import fault_of, is_promise
from offerstands.trades import Trade
from offerstands.values import is_alike, is_integer, is_paper

LETTERS = "abcdefghijklmnopqrstuvwxyz"
LONGEST_NAME = 8


class House:
    """Keeps shows under names, and the log of its changes.

    A show is a tuple: its number, its trade, its room, its editions, and its promises, each one with
    the edition of which "same settled" speaks. No two shows that were ever set up have one number.
    """

    def __init__(self):
        self._shows = {}
        self._past = []
        self._changes = []
        self._numbers = 0

    def __len__(self):
        return len(self._changes)

    def __eq__(self, other):
        return isinstance(other, House) and without_numbers(self._shows) == without_numbers(other._shows)

    def set_up(self, name, trade, room, choosers):
        """Set up a show with its first edition under a new name."""
        if not is_name(name) or name in self._shows:
            raise BadName(name)
        if not isinstance(trade, Trade):
            raise BadPart("trade")
        if not is_integer(room) or room < 1:
            raise BadPart("room")
        require_edition_of(trade, (1, 2), choosers)
        self._numbers += 1
        change = ("set up", name, str(trade), room, texts_of(choosers))
        self._put(name, (self._numbers, trade, room, (choosers,), ()), change)

    def add_edition(self, name, choosers):
        """Bring in a further edition, which is in use from now on."""
        number, trade, room, editions, promises = self._show(name)
        require_edition_of(trade, (len(editions[-1]),), choosers)
        stream = first_shown(room, editions[-1], choosers)
        if stream is not None:
            raise Shown(stream)
        for promise, before in promises:
            require_kept(trade, choosers, promise, before)
        show = (number, trade, room, (*editions, choosers), promises)
        self._put(name, show, ("edition", name, texts_of(choosers)))

    def make_promise(self, name, promise):
        """Promise something of a show from now on."""
        number, trade, room, editions, promises = self._show(name)
        edition = editions[-1]
        if not is_promise(trade, len(edition), promise) or promise in promises_of(promises):
            raise BadPromise(promise)
        require_kept(trade, edition, promise, edition)
        before = edition if promise[0] == "same settled" else ()
        show = (number, trade, room, editions, (*promises, (promise, before)))
        self._put(name, show, ("promise", name, promise))

    def release_promise(self, name, promise):
        """Promise something no more."""
        number, trade, room, editions, promises = self._show(name)
        rows = [row for row in promises if not is_alike(row[0], promise)]
        if len(rows) == len(promises):
            raise NoPromise(promise)
        self._put(name, (number, trade, room, editions, tuple(rows)), ("release", name, promise))

    def take_down(self, name):
        """Keep a show no more."""
        self._show(name)
        self._put(name, None, ("take down", name))

    def undo(self):
        """Take the last change back."""
        if len(self._changes) == 0:
            raise NothingToUndo()
        self._changes.pop()
        self._shows = self._past.pop()

    def log(self):
        """The changes, in order, without those that were taken back."""
        return tuple(self._changes)

    @classmethod
    def of(cls, log):
        """The house that makes the changes of a log."""
        if not isinstance(log, tuple):
            raise BadChange(0)
        house = cls()
        for number, change in enumerate(log):
            try:
                make_change(house, change)
            except OfferError:
                raise BadChange(number)
        return house

    def trial(self):
        """Another house that is equal, with the same log, and goes its own way."""
        other = House()
        # Dicts of shows are never changed, each change puts another one in their place.
        other._shows = self._shows
        other._past = list(self._past)
        other._changes = list(self._changes)
        other._numbers = self._numbers
        return other

    def names(self):
        """The names of all shows, ascending."""
        return tuple(sorted(list(self._shows)))

    def trade_of(self, name):
        """The trade of a show."""
        return self._show(name)[1]

    def room_of(self, name):
        """How many offers of a show can stand at one moment."""
        return self._show(name)[2]

    def editions(self, name):
        """The editions of a show, the last one in use."""
        return self._show(name)[3]

    def promises(self, name):
        """The promises of a show, in the order in which they were made."""
        return promises_of(self._show(name)[4])

    def desk(self, name):
        """A new desk, by the edition in use."""
        return Desk(self, name)

    def number_of(self, name):
        """The number of a show, by which its desks know it."""
        return self._show(name)[0]

    def edition_in_use(self, name, number):
        """The edition in use of the show with a number, if it is kept under a name now."""
        show = self._show(name)
        if show[0] != number:
            raise NoName(name)
        return show[3][-1]

    def _show(self, name):
        """The show that is kept under a name; raise NoName for any other value."""
        if not isinstance(name, str) or name not in self._shows:
            raise NoName(name)
        return self._shows[name]

    def _put(self, name, show, change):
        """Make a change, by which a show, or none, is kept under a name."""
        shows = {other: self._shows[other] for other in self._shows if other != name}
        if show is not None:
            shows[name] = show
        self._past.append(self._shows)
        self._shows = shows
        self._changes.append(change)


def is_name(thing):
    """Whether any value is a word of one to eight letters from a to z."""
    if not isinstance(thing, str) or not 1 <= len(thing) <= LONGEST_NAME:
        return False
    return all([letter in LETTERS for letter in thing])


def is_edition(trade, many, thing):
    """Whether any value is a tuple of choosers, so many as one of some numbers, with a trade's number of offers."""
    if not isinstance(thing, tuple) or len(thing) not in many:
        return False
    return all([isinstance(chooser, Chooser) and len(chooser) == len(trade) for chooser in thing])


def require_edition_of(trade, many, thing):
    """Raise BadPart for a value that is no edition, or EditionNotApart."""
    if not is_edition(trade, many, thing):
        raise BadPart("choosers")
    for number, chooser in enumerate(thing):
        paper = judge_apart(chooser)
        if paper[0] == "against":
            raise EditionNotApart(number, paper)


def without_numbers(shows):
    """For each name what makes up its show; the numbers only keep desks apart."""
    return {name: shows[name][1:] for name in shows}


def require_kept(trade, choosers, promise, before):
    """Raise Unkept if an edition does not keep a promise."""
    fault = fault_of(trade, choosers, promise, before)
    if fault is not None:
        raise Unkept(promise, fault)


def promises_of(rows):
    """The promises of a show without the editions of which they speak."""
    return tuple([promise for promise, _ in rows])


def texts_of(choosers):
    """The texts of an edition's choosers."""
    return tuple([str(chooser) for chooser in choosers])


def choosers_read(texts):
    """The choosers with a tuple of texts."""
    if not isinstance(texts, tuple):
        raise BadText(0)
    return tuple([Chooser.read(text) for text in texts])


def make_change(house, thing):
    """Make a change of a log; raise an error for any value that is no change or cannot be made."""
    if is_paper(thing, "set up", 5):
        _, name, text, room, texts = thing
        house.set_up(name, Trade.read(text), room, choosers_read(texts))
    elif is_paper(thing, "edition", 3):
        house.add_edition(thing[1], choosers_read(thing[2]))
    elif is_paper(thing, "promise", 3):
        house.make_promise(thing[1], thing[2])
    elif is_paper(thing, "release", 3):
        house.release_promise(thing[1], thing[2])
    elif is_paper(thing, "take down", 2):
        house.take_down(thing[1])
    else:
        raise BadChange(0)
