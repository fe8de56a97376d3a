"""Choosers: what is taken of each set of offers ([1.1], [1.6])."""

from itertools import combinations

from offerstands.errors import BadChooser, BadSet, BadText
from offerstands.values import (
    is_integer_within, line_at, numbered_head, require_last, text_lines,
)

MOST_OFFERS = 6


class Chooser:
    """Takes of each set of its offers a part of this set, as its picks tell."""

    def __init__(self, offers, picks):
        if not is_integer_within(offers, 1, MOST_OFFERS):
            raise BadChooser("offers")
        sets = all_sets(offers)
        if not isinstance(picks, tuple) or len(picks) != len(sets):
            raise BadChooser("picks")
        for number, some in enumerate(sets):
            if not is_set(offers, picks[number]) or not is_within(picks[number], some):
                raise BadChooser(number)
        self.offers = offers
        self.picks = picks
        self._table = {some: picks[number] for number, some in enumerate(sets)}

    def __len__(self):
        return len(range(self.offers))

    def __eq__(self, other):
        return isinstance(other, Chooser) and self.offers == other.offers and self.picks == other.picks

    def __str__(self):
        return "\n".join([f"chooser {self.offers}"] + [set_text(part) for part in self.picks])

    @classmethod
    def read(cls, text):
        """The chooser with a text."""
        lines = text_lines(text)
        offers = numbered_head(lines, "chooser", MOST_OFFERS)
        return cls(offers, picks_read(offers, lines))

    def taken(self, some):
        """What is taken of a set."""
        require_set(self, some)
        return self._table[some]


def is_set(offers, thing):
    """Whether any value is a set of so many offers."""
    if not isinstance(thing, tuple):
        return False
    least = 0
    for item in thing:
        if not is_integer_within(item, least, offers - 1):
            return False
        least = item + 1
    return True


def require_set(chooser, thing):
    """Raise BadSet for a value that is no set of the chooser's offers."""
    if not is_set(chooser.offers, thing):
        raise BadSet(thing)


def all_sets(offers):
    """All sets of so many offers, in order."""
    return tuple(parts_of(tuple(range(offers))))


def parts_of(some):
    """A list of all parts of a set, in order."""
    rows = list(some)
    return [part for many in range(len(rows) + 1) for part in combinations(rows, many)]


def together(one, other):
    """Two sets put together."""
    return tuple(sorted(set(one) | set(other)))


def without(some, others):
    """What is left of a set without the offers of another one."""
    return tuple([offer for offer in some if offer not in others])


def is_within(part, some):
    """Whether all offers of a set are in another one."""
    return all([offer in some for offer in part])


def chooser_of(offers, take):
    """The chooser that takes of each set what a function tells."""
    return Chooser(offers, tuple([take(some) for some in all_sets(offers)]))


def set_text(some):
    """The line of a set in a text."""
    return " ".join([str(offer) for offer in some]) if some else "-"


def picks_read(offers, lines):
    """The picks that the lines of a text tell behind the first one."""
    picks = []
    for number, some in enumerate(all_sets(offers), start=2):
        line = line_at(lines, number)
        words = line.split(" ")
        part = tuple([offer for offer in some if str(offer) in words])
        # Only one line tells a part, so whatever else stands there shows here.
        if set_text(part) != line:
            raise BadText(number)
        picks.append(part)
    require_last(lines, len(picks) + 1)
    return tuple(picks)
