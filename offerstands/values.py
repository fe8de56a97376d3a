"""Helpers of all modules: kinds of values, orders, papers, lines of texts."""

from offerstands.errors import BadText, OtherOffers


def is_integer(thing):
    """Whether any value is an integer."""
    # Python counts True and False as integers, the document does not.
    return isinstance(thing, int) and not isinstance(thing, bool)


def is_integer_within(thing, low, high):
    """Whether any value is an integer from low to high."""
    return is_integer(thing) and low <= thing <= high


def is_paper(thing, word, size):
    """Whether any value is a tuple of so many items that begins with a word."""
    return isinstance(thing, tuple) and len(thing) == size and thing[0] == word


def is_ascending(row):
    """Whether a tuple of values that Python can compare is ascending."""
    return all([row[at] < row[at + 1] for at in range(len(row) - 1)])


def in_order(rows):
    """A tuple of the rows, shorter ones ahead, those of one length as Python compares them."""
    return tuple(sorted(rows, key=lambda row: (len(row), row)))


def are_in_order(rows):
    """Whether a tuple of rows is in order, none of them twice."""
    return is_ascending([(len(row), row) for row in rows])


def require_equal_offers(one, other):
    """Raise OtherOffers unless two objects have equally many offers."""
    if len(one) != len(other):
        raise OtherOffers()


def text_lines(text):
    """The lines of a text; raise BadText for a value that is no string."""
    if not isinstance(text, str):
        raise BadText(0)
    return text.split("\n")


def numbered_head(lines, word, most):
    """The number behind the word in the first line, from 1 to most."""
    heads = [f"{word} {number}" for number in range(1, most + 1)]
    if lines[0] not in heads:
        raise BadText(1)
    return heads.index(lines[0]) + 1


def line_at(lines, number):
    """The line with a number, from 1 on; raise BadText where it is missing."""
    if number > len(lines):
        raise BadText(number)
    return lines[number - 1]


def require_last(lines, number):
    """Raise BadText if there is a line behind the one with a number."""
    if number < len(lines):
        raise BadText(number + 1)
