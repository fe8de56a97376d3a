"""Lists, and whether choosers can be asked apart ([1.2], [1.3])."""

from offerstands.choosers import all_sets, chooser_of, is_set, is_within, parts_of, without
from offerstands.errors import BadList
from offerstands.values import is_integer_within, is_paper


def is_list(offers, thing):
    """Whether any value is a list of so many offers."""
    if not isinstance(thing, tuple):
        return False
    for item in thing:
        if not is_integer_within(item, 0, offers - 1):
            return False
    return len(set(thing)) == len(thing)


def are_lists(offers, thing):
    """Whether any value is lists of so many offers."""
    return isinstance(thing, tuple) and all([is_list(offers, row) for row in thing])


def firsts(lists, some):
    """What lists take of a set: the first offer of each that is in it."""
    found = [first_in(row, some) for row in lists]
    return tuple([offer for offer in some if offer in found])


def first_in(row, some):
    """The first offer of a list that is in a set, None if there is none."""
    for offer in row:
        if offer in some:
            return offer
    return None


def by_lists(offers, lists):
    """The chooser that lists tell."""
    if not isinstance(lists, tuple):
        raise BadList(-1)
    for number, row in enumerate(lists):
        if not is_list(offers, row):
            raise BadList(number)
    return chooser_of(offers, lambda some: firsts(lists, some))


def do_lists_tell(chooser, lists):
    """Whether lists take of each set what a chooser takes."""
    return by_lists(chooser.offers, lists) == chooser


def speak_against(chooser, some, part):
    """Whether a set and a part of it speak against a chooser."""
    whole = chooser.taken(some)
    less = chooser.taken(part)
    if any([offer in whole and offer not in less for offer in part]):
        return True
    return is_within(whole, part) and not is_within(less, whole)


def first_against(chooser):
    """The first set and its first part that speak against a chooser, None if none do."""
    for some in all_sets(chooser.offers):
        for part in parts_of(some):
            if speak_against(chooser, some, part):
                return (some, part)
    return None


def is_apart(chooser):
    """Whether a chooser can be asked apart."""
    return first_against(chooser) is None


def judge_apart(chooser):
    """A paper: lists that tell the chooser, or a set and a part that speak against it."""
    pair = first_against(chooser)
    if pair is not None:
        return ("against", *pair)
    return ("lists", telling_lists(chooser))


def apart_holds(chooser, thing):
    """Whether any value is a paper on whether the chooser can be asked apart."""
    if is_paper(thing, "lists", 2):
        return are_lists(chooser.offers, thing[1]) and do_lists_tell(chooser, thing[1])
    if not is_paper(thing, "against", 3):
        return False
    _, some, part = thing
    if not is_set(chooser.offers, some) or not is_set(chooser.offers, part):
        return False
    return is_within(part, some) and speak_against(chooser, some, part)


def telling_lists(chooser):
    """Some lists that tell a chooser that can be asked apart."""
    lists = []
    # With greater sets first, a list is added only where an offer is taken of no greater one.
    for some in reversed(list(all_sets(chooser.offers))):
        missing = without(chooser.taken(some), firsts(lists, some))
        for offer in missing:
            lists.append(list_through(chooser, [(some, offer)]))
    return tuple(lists)


def list_through(chooser, steps):
    """A list that takes no offer that the chooser would not take.

    For each step, a set and an offer that is taken of it, the offer is the first one of the set;
    the set of a step lies within that of the step ahead, without its offer.
    """
    row = []
    left = tuple(range(chooser.offers))
    for some, offer in steps:
        # While something else than the set is taken of what is left, this is put ahead of the set.
        while outside := without(chooser.taken(left), some):
            row.append(outside[0])
            left = without(left, outside[:1])
        row.append(offer)
        left = without(left, (offer,))
    while rest := chooser.taken(left):
        row.append(rest[0])
        left = without(left, rest[:1])
    return tuple(row)
