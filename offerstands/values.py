"""Helpers of all modules: kinds of values, orders, papers, lines of texts."""

from offerstands.errors import BadText, OtherOffers


def is_integer(thing):
    """Whether any value is an integer."""
    # Python counts True and False as integers, the document does not.
    return isinstance(thing, int) and not isinstance(thing, bool)


def is_integer_within(thing, low, high):
    """Whether any value is an integer from low to high."""
    return is_integer(thing) and low <= thing <= high


def is_fraction(thing):
    """Whether any value is a pair of an integer from 0 on and one from 1 on."""
    if not isinstance(thing, tuple) or len(thing) != 2:
        return False
    return is_integer(thing[0]) and is_integer(thing[1]) and thing[0] >= 0 and thing[1] >= 1


def is_paper(thing, word, size):
    """Whether any value is a tuple of so many items that begins with a word."""
    return isinstance(thing, tuple) and len(thing) == size and thing[0] == word


def is_ascending(row):
    """Whether a tuple of values that Python can compare is ascending."""
    return all([row[at] < row[at + 1] for at in range(len(row) - 1)])


def in_order(rows):
    """A tuple of the rows, shorter ones ahead, those of one length as Python compares them."""
    return tuple(sorted(rows, key=lambda row: (len(row), row)))


def are_in_order(rows):
    """Whether a tuple of rows is in order, none of them twice."""
    return is_ascending([(len(row), row) for row in rows])


def require_equal_offers(one, other):
    """Raise OtherOffers unless two objects have equally many offers."""
    if len(one) != len(other):
        raise OtherOffers()


def text_lines(text):
    """The lines of a text; raise BadText for a value that is no string."""
    if not isinstance(text, str):
        raise BadText(0)
    return text.split("\n")


def numbered_head(lines, word, most):
    """The number behind the word in the first line, from 1 to most."""
    heads = [f"{word} {number}" for number in range(1, most + 1)]
    if lines[0] not in heads:
        raise BadText(1)
    return heads.index(lines[0]) + 1


def line_at(lines, number):
    """The line with a number, from 1 on; raise BadText where it is missing."""
    if number > len(lines):
        raise BadText(number)
    return lines[number - 1]


def require_last(lines, number):
    """Raise BadText if there is a line behind the one with a number."""
    if number < len(lines):
        raise BadText(number + 1)


def is_alike(one, other):
    """Whether two values are equal, and of the same kind part by part."""
    if one != other:
        return False
    # Python takes True for 1, within tuples, lists and dicts, too.
    if isinstance(one, (tuple, list)):
        return all([is_alike(part, further) for part, further in zip(one, other)])
    if isinstance(one, dict):
        return are_dicts_alike(one, other)
    return isinstance(one, bool) == isinstance(other, bool)


def are_dicts_alike(one, other):
    """Whether the keys and the values of two equal dicts are of the same kinds."""
    keys = list(other)
    for at, key in enumerate(one):
        is_there = is_alike(key, keys[at]) or any([is_alike(key, further) for further in keys])
        if not is_there or not is_alike(one[key], other[key]):
            return False
    return True


def all_walks(start, steps_from):
    """The first walk to each state that can be met, a dict in the order of these walks."""
    _, walks = first_walks(start, steps_from, lambda state: False)
    return walks


def first_walks(start, steps_from, is_wanted):
    """The first walk to each state, in order, up to the first state that is wanted.

    A function tells of a state the pairs of a step and the state that it leads to, steps ascending;
    a walk is a tuple of steps. What comes is the walk to what is wanted, None if it is not met, and
    a dict with the walks to all states that were met.
    """
    walks = {start: ()}
    met = [start]
    if is_wanted(start):
        return ((), walks)
    at = 0
    while at < len(met):
        here = met[at]
        for step, state in steps_from(here):
            if state not in walks:
                walks[state] = (*walks[here], step)
                met.append(state)
                if is_wanted(state):
                    return (walks[state], walks)
        at += 1
    return (None, walks)
