"""A console: a house and its desks, by commands and answers in words ([12.2])."""

from offerstands.choosers import Chooser, set_text
from offerstands.corners import many_lists
from offerstands.errors import (
    BadDeed, BadPart, BadPromise, BadText, EditionNotApart, Full, InvalidCommand, NameTaken, NoName, NoPromise,
    NothingToUndo, Shown, Unkept,
)
from offerstands.house import House, is_name
from offerstands.means import mean_broken
from offerstands.plans import least_waiting
from offerstands.rounds import best_settled
from offerstands.sides import settled_sets
from offerstands.skylines import skylines
from offerstands.trades import Trade, offers_of, stream_text
from offerstands.values import is_ascending

FIGURES = "0123456789"
MOST_FIGURES = 12


class Console:
    """Answers commands about its house, with a desk for each show."""

    def __init__(self):
        self._house = House()
        self._desks = {}

    def run(self, command):
        """The answer to a command."""
        words = command_words(command)
        if words == ["undo"]:
            return undo_answer(self._house, self._desks)
        if words == ["names"]:
            return " ".join(self._house.names()) if len(self._house.names()) > 0 else "-"
        word, name, *rest = words
        read = READING[word]
        told = read(rest)
        is_kept = name in self._house.names()
        if word == "set" and is_kept:
            raise NameTaken(name)
        if word != "set" and not is_kept:
            raise NoName(name)
        answer = ANSWERING[word]
        return answer(self._house, self._desks, name, told)

    def house_now(self):
        """A trial of the house as it is now."""
        return self._house.trial()


def command_words(command):
    """The words of a command, with a name behind the first one where it is asked for; raise InvalidCommand."""
    if not isinstance(command, str) or "\n" in command:
        raise InvalidCommand()
    words = command.split(" ")
    if command in ("undo", "names"):
        return words
    if "" in words or words[0] not in READING or len(words) < 2 or not is_name(words[1]):
        raise InvalidCommand()
    return words


def integer_read(word):
    """The integer that is written in a word; raise InvalidCommand."""
    figures = word[1:] if word.startswith("-") else word
    if not 1 <= len(figures) <= MOST_FIGURES or not all([figure in FIGURES for figure in figures]):
        raise InvalidCommand()
    if str(int(word)) != word:
        raise InvalidCommand()
    return int(word)


def nothing_read(words):
    """Nothing; raise InvalidCommand if there is a word yet."""
    if words:
        raise InvalidCommand()


def texts_read(words):
    """The texts that are told by one or more words; raise InvalidCommand."""
    if not words:
        raise InvalidCommand()
    return [text.replace(";", "\n") for text in " ".join(words).split(" / ")]


def set_read(words):
    """A room and texts; raise InvalidCommand."""
    if not words:
        raise InvalidCommand()
    return (integer_read(words[0]), texts_read(words[1:]))


def promise_read(words):
    """A promise, as far as its form goes; raise InvalidCommand."""
    if words[:1] == ["settled"]:
        offers = [integer_read(word) for word in words[1:]]
        if not is_ascending([-1, *offers]):
            raise InvalidCommand()
        return ("same settled", tuple(offers))
    if len(words) != 2 or words[0] not in ("lists", "shelf", "notes", "waits", "breaks"):
        raise InvalidCommand()
    told = fraction_read(words[1]) if words[0] == "breaks" else integer_read(words[1])
    return (words[0], told)


def fraction_read(word):
    """A pair of an integer and one from 1 on; raise InvalidCommand."""
    parts = [integer_read(part) for part in word.split("/")]
    if len(parts) != 2 or parts[1] < 1:
        raise InvalidCommand()
    return tuple(parts)


def deed_read(words):
    """A deed, of whatever trade; raise InvalidCommand."""
    if words == ["."]:
        return ("day",)
    if len(words) != 1 or len(words[0]) != 2 or words[0][0] not in "+-" or words[0][1] not in FIGURES:
        raise InvalidCommand()
    return ("come" if words[0][0] == "+" else "gone", int(words[0][1]))


def side_read(words):
    """A side; raise InvalidCommand."""
    if words not in (["near"], ["far"]):
        raise InvalidCommand()
    return words[0]


def undo_answer(house, desks):
    """Take the last change back; desks go with their shows, and come with them."""
    house.undo()
    for name in list(desks):
        if name not in house.names():
            del desks[name]
    for name in house.names():
        if name not in desks:
            desks[name] = house.desk(name)
    return "ok"


def set_answer(house, desks, name, told):
    """Set up a show, with its desk."""
    room, texts = told
    try:
        trade, choosers = Trade.read(texts[0]), tuple([Chooser.read(text) for text in texts[1:]])
        house.set_up(name, trade, room, choosers)
    except (BadText, BadPart):
        raise InvalidCommand()
    except EditionNotApart as error:
        return f"apart {error.number}"
    desks[name] = house.desk(name)
    return "ok"


def edition_answer(house, desks, name, texts):
    """Bring in an edition."""
    try:
        house.add_edition(name, tuple([Chooser.read(text) for text in texts]))
    except (BadText, BadPart):
        raise InvalidCommand()
    except EditionNotApart as error:
        return f"apart {error.number}"
    except Shown as gate:
        return f"shown {stream_text(gate.stream)}"
    except Unkept:
        return "unkept"
    return "ok"


def promise_answer(house, desks, name, promise):
    """Make a promise."""
    try:
        house.make_promise(name, promise)
    except BadPromise:
        raise InvalidCommand()
    except Unkept:
        return "unkept"
    return "ok"


def release_answer(house, desks, name, promise):
    """Release a promise."""
    try:
        house.release_promise(name, promise)
    except NoPromise:
        raise InvalidCommand()
    return "ok"


def down_answer(house, desks, name, told):
    """Take a show down, with its desk."""
    house.take_down(name)
    del desks[name]
    return "ok"


def take_answer(house, desks, name, deed):
    """Do a deed at the desk; what is taken then."""
    try:
        return parted_sets(desks[name].take(deed))
    except BadDeed:
        raise InvalidCommand()
    except Full:
        return "full"


def back_answer(house, desks, name, told):
    """Take the last deed of the desk back."""
    try:
        desks[name].undo()
    except NothingToUndo:
        return "none"
    return "ok"


def move_answer(house, desks, name, told):
    """The desk moves on."""
    desks[name].move_on()
    return "ok"


def stands_answer(house, desks, name, told):
    """What stands at the desk."""
    return dated_text(desks[name].stands_now)


def skyline_answer(house, desks, name, told):
    """The skylines at the desk."""
    return " / ".join([dated_text(dated) for dated in desks[name].skylines_now])


def taken_answer(house, desks, name, told):
    """What is taken at the desk."""
    return parted_sets(desks[name].taken_now)


def stream_answer(house, desks, name, told):
    """The stream of the desk."""
    return stream_text(desks[name].stream_now)


def lists_answer(house, desks, name, told):
    """The fewest lists of each chooser in use."""
    return " / ".join([str(many_lists(chooser)) for chooser in house.editions(name)[-1]])


def shelf_answer(house, desks, name, told):
    """The greatest number of offers of a skyline by the first chooser in use."""
    return str(max([len(dated) for dated in skylines(house.editions(name)[-1][0], house.trade_of(name))]))


def notes_answer(house, desks, name, told):
    """The fewest notes for the picks of the first chooser in use; they are one for each skyline."""
    return str(len(skylines(house.editions(name)[-1][0], house.trade_of(name))))


def waits_answer(house, desks, name, told):
    """The least waiting of two choosers in use."""
    edition = house.editions(name)[-1]
    if len(edition) == 1:
        return "one"
    return str(least_waiting(edition[0], edition[1], house.trade_of(name)))


def breaks_answer(house, desks, name, told):
    """The mean of two choosers in use."""
    edition = house.editions(name)[-1]
    if len(edition) == 1:
        return "one"
    top, bottom = mean_broken(edition[0], edition[1], house.trade_of(name))
    return f"{top}/{bottom}"


def settled_answer(house, desks, name, told):
    """The settled sets, by two choosers in use, of what stands at the desk."""
    edition = house.editions(name)[-1]
    if len(edition) == 1:
        return "one"
    return parted_sets(settled_sets(edition[0], edition[1], offers_of(desks[name].stands_now)))


def best_answer(house, desks, name, side):
    """The settled set, by two choosers in use, of what stands at the desk that is best for a side."""
    edition = house.editions(name)[-1]
    if len(edition) == 1:
        return "one"
    near, far = edition if side == "near" else edition[::-1]
    return set_text(best_settled(near, far, offers_of(desks[name].stands_now)))


def promises_answer(house, desks, name, told):
    """All promises of a show."""
    promises = house.promises(name)
    return " / ".join([promise_text(promise) for promise in promises]) if promises else "-"


def parted_sets(sets):
    """The words of some sets, parted from each other."""
    return " / ".join([set_text(some) for some in sets])


def dated_text(dated):
    """The words of a dated set."""
    return " ".join([f"{offer}:{days}" for offer, days in dated]) if dated else "-"


def promise_text(promise):
    """The words of a promise."""
    word, told = promise
    if word == "same settled":
        return " ".join(["settled"] + [str(offer) for offer in told])
    if word == "breaks":
        return f"breaks {told[0]}/{told[1]}"
    return f"{word} {told}"


READING = {
    "set": set_read, "edition": texts_read, "promise": promise_read, "release": promise_read, "down": nothing_read,
    "take": deed_read, "back": nothing_read, "move": nothing_read, "stands": nothing_read, "skyline": nothing_read,
    "taken": nothing_read, "stream": nothing_read, "lists": nothing_read, "shelf": nothing_read, "notes": nothing_read,
    "waits": nothing_read, "breaks": nothing_read, "settled": nothing_read, "best": side_read, "promises": nothing_read,
}
ANSWERING = {
    "set": set_answer, "edition": edition_answer, "promise": promise_answer, "release": release_answer,
    "down": down_answer, "take": take_answer, "back": back_answer, "move": move_answer, "stands": stands_answer,
    "skyline": skyline_answer, "taken": taken_answer, "stream": stream_answer, "lists": lists_answer,
    "shelf": shelf_answer, "notes": notes_answer, "waits": waits_answer, "breaks": breaks_answer,
    "settled": settled_answer, "best": best_answer, "promises": promises_answer,
}
