"""Chains of presses that end in settled sets ([6.2])."""

from offerstands.pressing import (
    is_agreed_part, parts_behind, pressed_by, presses_from, presses_to_parts, require_agreed,
)
from offerstands.sides import wished_of
from offerstands.values import is_ascending, is_paper


def first_chain(near, far, standing, part):
    """The first offers that can be pressed in up to a settled set, None if there are none."""
    require_agreed(near, far, standing, part)
    presses = presses_to_parts(near, far, standing, part)
    for some in presses:
        if not wished_of(near, far, standing, some):
            return presses[some]
    return None


def chain_ends(near, far, standing, part):
    """The settled sets that come of chains, in order."""
    parts = parts_behind(near, far, standing, part)
    return tuple([some for some in parts if not wished_of(near, far, standing, some)])


def judge_chain(near, far, standing, part):
    """A paper: the first chain, or all parts that come, none of which is settled."""
    chain = first_chain(near, far, standing, part)
    if chain is None:
        return ("closed", tuple(sorted(parts_behind(near, far, standing, part))))
    return ("chain", chain)


def chain_holds(near, far, standing, part, thing):
    """Whether any value is a paper on whether there is a chain from a part on."""
    require_agreed(near, far, standing, part)
    if is_paper(thing, "chain", 2) and isinstance(thing[1], tuple):
        return is_chain(near, far, standing, part, thing[1])
    if is_paper(thing, "closed", 2) and are_agreed_parts(near, far, standing, thing[1]):
        return part in thing[1] and are_presses_within(near, far, standing, thing[1])
    return False


def is_chain(near, far, standing, part, items):
    """Whether any values can be pressed in one behind the other, up to a settled set."""
    end = pressed_by(near, far, standing, part, items)
    return end is not None and len(wished_of(near, far, standing, end)) == 0


def are_agreed_parts(near, far, standing, thing):
    """Whether any value is an ascending tuple of agreed parts of what stands."""
    if not isinstance(thing, tuple) or not all([is_agreed_part(near, far, standing, item) for item in thing]):
        return False
    return is_ascending(thing)


def are_presses_within(near, far, standing, sets):
    """Whether something can be pressed into each of the sets, and one of them comes of each press."""
    for some in sets:
        rows = presses_from(near, far, standing, some)
        if len(rows) == 0 or not all([found in sets for _, found in rows]):
            return False
    return True
