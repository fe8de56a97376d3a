"""Whether presses go round, or how many offers can be pressed in at most ([6.3])."""

from offerstands.pressing import is_agreed_part, parts_behind, pressed_by, presses_from, require_agreed
from offerstands.values import is_ascending, is_integer, is_paper


def does_go_round(near, far, standing, part):
    """Whether offers can be pressed in one behind the other without end."""
    return longest_chain(near, far, standing, part) is None


def longest_chain(near, far, standing, part):
    """How many offers can be pressed in at most, None if presses go round."""
    return ranks_behind(near, far, standing, part).get(part)


def judge_ends(near, far, standing, part):
    """A paper: ranks that become less by each press, or offers by which presses go round."""
    ranks = ranks_behind(near, far, standing, part)
    if part in ranks:
        return ("ranks", tuple(sorted([(some, ranks[some]) for some in ranks])))
    return ring_outside(near, far, standing, part, ranks)


def ends_hold(near, far, standing, part, thing):
    """Whether any value is a paper on whether presses go round."""
    require_agreed(near, far, standing, part)
    if is_paper(thing, "ranks", 2) and are_ranks(near, far, standing, thing[1]):
        ranks = dict(thing[1])
        return part in ranks and len(ranks) == len(thing[1]) and do_ranks_fall(near, far, standing, ranks)
    if is_paper(thing, "ring", 3) and isinstance(thing[1], tuple) and isinstance(thing[2], tuple):
        return is_ring(near, far, standing, part, thing[1], thing[2])
    return False


def ranks_behind(near, far, standing, part):
    """How many offers can be pressed in at most, for each part that comes and has no round behind it.

    Raise OtherOffers, or BadSet also for a part that is not agreed.
    """
    following = {
        some: [found for _, found in presses_from(near, far, standing, some)]
        for some in parts_behind(near, far, standing, part)
    }
    ranks = {}
    many = -1
    while many < len(ranks):
        many = len(ranks)
        for some in following:
            if some not in ranks and all([found in ranks for found in following[some]]):
                ranks[some] = max([ranks[found] for found in following[some]], default=-1) + 1
    return ranks


def ring_outside(near, far, standing, part, ranks):
    """A paper with offers by which presses go round, from a part that has no rank."""
    parts = [part]
    offers = []
    # From a part without a rank some press leads to another one, until one comes again.
    while parts[-1] not in parts[:-1]:
        rows = [row for row in presses_from(near, far, standing, parts[-1]) if row[1] not in ranks]
        offers.append(rows[0][0])
        parts.append(rows[0][1])
    ahead = parts.index(parts[-1])
    return ("ring", tuple(offers[:ahead]), tuple(offers[ahead:]))


def are_ranks(near, far, standing, thing):
    """Whether any value is an ascending tuple of pairs of an agreed part and an integer from 0 on."""
    if not isinstance(thing, tuple):
        return False
    for item in thing:
        if not isinstance(item, tuple) or len(item) != 2 or not is_agreed_part(near, far, standing, item[0]):
            return False
        if not is_integer(item[1]) or item[1] < 0:
            return False
    return is_ascending(thing)


def do_ranks_fall(near, far, standing, ranks):
    """Whether each press leads from a part with a rank to one with a lesser rank."""
    for some in ranks:
        for _, found in presses_from(near, far, standing, some):
            if found not in ranks or ranks[found] >= ranks[some]:
                return False
    return True


def is_ring(near, far, standing, part, ahead, ring):
    """Whether any values can be pressed in, those of the ring leading to where it begins."""
    begin = pressed_by(near, far, standing, part, ahead)
    if begin is None or len(ring) == 0:
        return False
    return pressed_by(near, far, standing, begin, ring) == begin
