"""What the document says of part 1 and part 2, word by word and slowly, to compare the program with."""

from itertools import combinations

from samples import deeds_of_trade, every_dated


def sets_of(offers):
    return [some for many in range(offers + 1) for some in combinations(range(offers), many)]


def parts_of(some):
    return [part for many in range(len(some) + 1) for part in combinations(some, many)]


def picks_of(chooser):
    return dict(zip(sets_of(chooser.offers), chooser.picks))


def union(one, other):
    return tuple(sorted(set(one) | set(other)))


def speaks_against(chooser, some, part):
    picks = picks_of(chooser)
    lost = set(part) & set(picks[some]) - set(picks[part])
    return bool(lost) or (set(picks[some]) <= set(part) and bool(set(picks[part]) - set(picks[some])))


def first_against(chooser):
    for some in sets_of(chooser.offers):
        for part in parts_of(some):
            if speaks_against(chooser, some, part):
                return (some, part)
    return None


def is_path_independent(chooser):
    """C. Plott's condition, otherwise told than by what speaks against a chooser."""
    picks = picks_of(chooser)
    return all(picks[union(a, b)] == picks[union(picks[a], picks[b])] for a in picks for b in picks)


def closed(chooser, some):
    """The greatest set with the same picks; checked to have all others as parts."""
    picks = picks_of(chooser)
    same = [other for other in picks if picks[other] == picks[some]]
    greatest = max(same, key=len)
    assert all(set(other) <= set(greatest) for other in same)
    return greatest


def is_corner(chooser, offer, some):
    picks = picks_of(chooser)
    whole = union(some, (offer,))
    if offer in some or offer not in picks[whole]:
        return False
    return all(offer not in picks[more] for more in picks if set(whole) < set(more))


def corners(chooser):
    sets = sets_of(chooser.offers)
    return tuple(sorted((x, some) for x in range(chooser.offers) for some in sets if is_corner(chooser, x, some)))


def are_apart(sets):
    return not any(set(a) <= set(b) or set(b) <= set(a) for a, b in combinations(sets, 2))


def many_lists(chooser):
    """How many corners there can be, none of which lies within another one."""
    sets = sorted({some for _, some in corners(chooser)})
    best = [0]

    def grow(chosen, rest):
        best[0] = max(best[0], len(chosen))
        for at, some in enumerate(rest):
            if are_apart([*chosen, some]):
                grow([*chosen, some], rest[at + 1:])

    grow([], sets)
    return best[0]


def tells(lists, chooser):
    for some, picks in picks_of(chooser).items():
        found = {next((x for x in row if x in some), None) for row in lists} - {None}
        if tuple(sorted(found)) != picks:
            return False
    return True


def after(trade, dated, deed):
    days = dict(dated)
    if deed[0] == "come":
        days[deed[1]] = trade.lives[deed[1]]
    elif deed[0] == "gone":
        days.pop(deed[1], None)
    else:
        days = {offer: left - 1 for offer, left in days.items() if left > 1}
    return tuple(sorted(days.items()))


def stands(trade, stream, start=()):
    for deed in stream:
        start = after(trade, start, deed)
    return start


def picks_at(chooser, dated):
    return picks_of(chooser)[tuple(offer for offer, _ in dated)]


def skyline(chooser, trade, dated):
    found = []
    for offer, days in dated:
        beside = [y for y, left in dated if y not in trade.loose and left >= days]
        if offer in picks_of(chooser)[union(beside, (offer,))]:
            found.append((offer, days))
    return tuple(found)


def shown_by_streams(chooser, trade, dated, offer):
    """Whether some stream shows the offer: all that stands behind streams without its coming is looked at."""
    met, rows = {dated}, [dated]
    while rows:
        state = rows.pop()
        if offer not in dict(state):
            continue
        if offer in picks_at(chooser, state):
            return True
        for deed in deeds_of_trade(trade):
            found = after(trade, state, deed)
            if deed != ("come", offer) and found not in met:
                met.add(found)
                rows.append(found)
    return False


def classes(trade, answer):
    """For each dated set the number of its class: the same answers behind each stream."""
    stood = every_dated(trade)
    marks = {dated: repr(answer(dated)) for dated in stood}
    while True:
        rows = {
            dated: (marks[dated], *[marks[after(trade, dated, deed)] for deed in deeds_of_trade(trade)])
            for dated in stood
        }
        numbers = {row: number for number, row in enumerate(sorted(set(rows.values())))}
        if len(numbers) == len(set(marks.values())):
            return {dated: numbers[rows[dated]] for dated in stood}
        marks = {dated: repr(numbers[rows[dated]]) for dated in stood}
