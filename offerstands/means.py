"""How few loans have to be broken in the long run ([7.2], [7.3])."""

from math import gcd

from offerstands.errors import TooMany
from offerstands.positions import (
    BEGINNING, broken_by, every_position, is_kept_of, require_house, settled_table,
)
from offerstands.streams import behind
from offerstands.trades import all_deeds, is_deed, offers_of
from offerstands.values import is_ascending, is_integer, is_paper


def mean_broken(near, far, trade, *, most=400):
    """The mean, a fraction in lowest terms."""
    return solved(few_moves(near, far, trade, most))[0]


def judge_mean(near, far, trade, fraction, *, most=400):
    """A paper: calm cells if a fraction is at least the mean, restless ones otherwise."""
    moves = few_moves(near, far, trade, most)
    mean, numbers, deeds = solved(moves)
    if is_below(fraction, mean):
        return ("restless", restless_rows(moves, deeds, fraction))
    # What is enough for the mean is enough for more; whole parts of numbers do, as all else is whole.
    rows = [(*position, numbers[position] * fraction[1] // mean[1]) for position in numbers]
    return ("calm", tuple(sorted(rows)))


def restless_cells(near, far, trade, fraction, *, most=400):
    """Restless cells for a fraction that is at most the mean, None for a greater one."""
    moves = few_moves(near, far, trade, most)
    mean, _, deeds = solved(moves)
    if is_below(mean, fraction):
        return None
    return restless_rows(moves, deeds, fraction)


def mean_holds(near, far, trade, fraction, thing):
    """Whether any value is a paper on whether the mean is at most, or at least, a fraction."""
    require_house(near, far, trade)
    settled = settled_table(near, far)
    if is_paper(thing, "calm", 2) and are_cells(trade, settled, thing[1], 3):
        return are_calm(trade, settled, fraction, thing[1])
    if is_paper(thing, "restless", 2) and are_cells(trade, settled, thing[1], 4):
        return are_restless(trade, settled, fraction, thing[1])
    return False


def calm_moves(near, far, trade):
    """For each position and each deed a move by which a settler keeps to the mean."""
    settled = settled_table(near, far)
    moves = all_moves(trade, settled, every_position(trade, settled))
    (_, bottom), numbers, _ = solved(moves)
    return {
        position: {deed: calmest(moves[position][deed], numbers, bottom) for deed in moves[position]}
        for position in moves
    }


def calmest(rows, numbers, bottom):
    """The least of the moves that need the least number."""
    return min([(numbers[following] + bottom * many, following) for following, many in rows])[1]


def few_moves(near, far, trade, most):
    """All moves; raise OtherOffers, or TooMany if there are more positions than told."""
    require_house(near, far, trade)
    settled = settled_table(near, far)
    positions = every_position(trade, settled)
    if len(positions) > most:
        raise TooMany(most)
    return all_moves(trade, settled, positions)


def all_moves(trade, settled, positions):
    """For each position and each deed the moves."""
    deeds = all_deeds(trade)
    return {
        position: {deed: moves_by(trade, settled, position, deed) for deed in deeds}
        for position in positions
    }


def moves_by(trade, settled, position, deed):
    """The pairs of a position to which a move leads, and how many loans the move breaks."""
    dated = behind(trade, position[0], deed)
    found = [(dated, kept) for kept in settled[offers_of(dated)]]
    return [(following, len(broken_by(position, following))) for following in found]


def solved(moves):
    """The mean, the least numbers of calm cells for it, and deeds by which no less is broken.

    The fraction grows from 0 on: as long as deeds force more than it, the least mean that is broken
    by these deeds is the next one. For the mean each position has a number: by whatever is kept,
    a settler can go over to what is kept from the beginning on.
    """
    mean = (0, 1)
    deeds = {position: ("day",) for position in moves}
    numbers, forcing = least_numbers(moves, mean)
    while numbers[BEGINNING] is None:
        deeds = forcing
        mean = least_round(moves, deeds)
        numbers, forcing = least_numbers(moves, mean)
    return (mean, numbers, deeds)


def least_numbers(moves, fraction):
    """The least number of each position in calm cells, None where there is none, and deeds that force it.

    At first no deeds are done. Then, again and again, deeds are done where they force more than the
    numbers so far: so numbers only grow, till they are enough for each deed.
    """
    deeds = {}
    numbers = {position: 0 for position in moves}
    while raising := raising_deeds(moves, numbers, fraction):
        for position in raising:
            deeds[position] = raising[position]
        numbers = numbers_against(moves, deeds, fraction)
    return (numbers, deeds)


def raising_deeds(moves, numbers, fraction):
    """For each position whose number is not enough for some deed the deed that needs most."""
    raising = {}
    for position in moves:
        most = numbers[position]
        for deed in moves[position]:
            need = needed(moves[position][deed], numbers, fraction)
            if most is not None and (need is None or need > most):
                most = need
                raising[position] = deed
    return raising


def numbers_against(moves, deeds, fraction):
    """The least numbers if at each position its deed is done, and nothing more where there is none."""
    numbers = {position: None if position in deeds else 0 for position in moves}
    is_less = True
    while is_less:
        is_less = False
        for position in deeds:
            need = needed(moves[position][deeds[position]], numbers, fraction)
            if need is not None and (numbers[position] is None or need < numbers[position]):
                numbers[position] = need
                is_less = True
    return numbers


def needed(rows, numbers, fraction):
    """The least number that is enough for one of some moves, None if none is."""
    top, bottom = fraction
    found = [
        numbers[following] + bottom * many - top
        for following, many in rows if numbers[following] is not None
    ]
    return min(found, default=None)


def least_round(moves, deeds):
    """The least mean of moves that go round, from the beginning on, if each position has its deed (R. Karp)."""
    rows = [{BEGINNING: 0}]
    for _ in moves:
        rows.append(fewest_further(moves, deeds, rows[-1]))
    last = len(rows) - 1
    least = None
    for position in rows[last]:
        greatest = None
        for many in [at for at in range(last) if position in rows[at]]:
            mean = (rows[last][position] - rows[many][position], last - many)
            if greatest is None or is_below(greatest, mean):
                greatest = mean
        if least is None or is_below(greatest, least):
            least = greatest
    divisor = gcd(least[0], least[1])
    return (least[0] // divisor, least[1] // divisor)


def fewest_further(moves, deeds, row):
    """How few loans are broken up to each position, from how few are up to those ahead of it."""
    found = {}
    for position in row:
        for following, many in moves[position][deeds[position]]:
            if following not in found or row[position] + many < found[following]:
                found[following] = row[position] + many
    return found


def restless_rows(moves, deeds, fraction):
    """Restless cells by deeds that break no less than a fraction tells."""
    top, bottom = fraction
    numbers = {BEGINNING: 0}
    is_less = True
    while is_less:
        is_less = False
        for position in list(numbers):
            for following, many in moves[position][deeds[position]]:
                found = numbers[position] + bottom * many - top
                if following not in numbers or found < numbers[following]:
                    numbers[following] = found
                    is_less = True
    least = min(list(numbers.values()))
    return tuple(sorted([
        (*position, deeds[position], numbers[position] - least) for position in numbers
    ]))


def is_below(one, other):
    """Whether a fraction is less than another one."""
    return one[0] * other[1] < other[0] * one[1]


def are_cells(trade, settled, thing, size):
    """Whether any value is an ascending tuple of positions, each once, with a number, the beginning among them.

    Of size 4 there is a deed ahead of the number.
    """
    if not isinstance(thing, tuple):
        return False
    for item in thing:
        if not isinstance(item, tuple) or len(item) != size or not is_kept_of(trade, item[:2]):
            return False
        if item[1] not in settled[offers_of(item[0])] or not is_integer(item[-1]) or item[-1] < 0:
            return False
        if size == 4 and not is_deed(trade, item[2]):
            return False
    positions = [item[:2] for item in thing]
    return is_ascending(thing) and len(set(positions)) == len(positions) and BEGINNING in positions


def are_calm(trade, settled, fraction, cells):
    """Whether by each deed some move leads from each cell to one whose number is small enough."""
    top, bottom = fraction
    numbers = {(dated, kept): number for dated, kept, number in cells}
    deeds = all_deeds(trade)
    for position in numbers:
        for deed in deeds:
            needs = [
                numbers[following] + bottom * many
                for following, many in moves_by(trade, settled, position, deed) if following in numbers
            ]
            if len(needs) == 0 or min(needs) > numbers[position] + top:
                return False
    return True


def are_restless(trade, settled, fraction, cells):
    """Whether each move by the deed of a cell leads to a cell whose number is small enough."""
    top, bottom = fraction
    numbers = {(dated, kept): number for dated, kept, _, number in cells}
    for dated, kept, deed, number in cells:
        for following, many in moves_by(trade, settled, (dated, kept), deed):
            if following not in numbers or numbers[following] + top > number + bottom * many:
                return False
    return True
