"""What the document says, word by word and slowly, to compare the program with."""

from itertools import combinations, product

from samples import deeds_of_trade, every_dated, streams_in_order

from offerstands.choosers import Chooser


def sets_of(offers):
    return [some for many in range(offers + 1) for some in combinations(range(offers), many)]


def parts_of(some):
    return [part for many in range(len(some) + 1) for part in combinations(some, many)]


def picks_of(chooser):
    return dict(zip(sets_of(chooser.offers), chooser.picks))


def union(one, other):
    return tuple(sorted(set(one) | set(other)))


def speaks_against(chooser, some, part):
    picks = picks_of(chooser)
    lost = set(part) & set(picks[some]) - set(picks[part])
    return bool(lost) or (set(picks[some]) <= set(part) and bool(set(picks[part]) - set(picks[some])))


def first_against(chooser):
    for some in sets_of(chooser.offers):
        for part in parts_of(some):
            if speaks_against(chooser, some, part):
                return (some, part)
    return None


def is_path_independent(chooser):
    """C. Plott's condition, otherwise told than by what speaks against a chooser."""
    picks = picks_of(chooser)
    return all(picks[union(a, b)] == picks[union(picks[a], picks[b])] for a in picks for b in picks)


def closed(chooser, some):
    """The greatest set with the same picks; checked to have all others as parts."""
    picks = picks_of(chooser)
    same = [other for other in picks if picks[other] == picks[some]]
    greatest = max(same, key=len)
    assert all(set(other) <= set(greatest) for other in same)
    return greatest


def is_corner(chooser, offer, some):
    picks = picks_of(chooser)
    whole = union(some, (offer,))
    if offer in some or offer not in picks[whole]:
        return False
    return all(offer not in picks[more] for more in picks if set(whole) < set(more))


def corners(chooser):
    sets = sets_of(chooser.offers)
    return tuple(sorted((x, some) for x in range(chooser.offers) for some in sets if is_corner(chooser, x, some)))


def are_apart(sets):
    return not any(set(a) <= set(b) or set(b) <= set(a) for a, b in combinations(sets, 2))


def many_lists(chooser):
    """How many corners there can be, none of which lies within another one."""
    sets = sorted({some for _, some in corners(chooser)})
    best = [0]

    def grow(chosen, rest):
        best[0] = max(best[0], len(chosen))
        for at, some in enumerate(rest):
            if are_apart([*chosen, some]):
                grow([*chosen, some], rest[at + 1:])

    grow([], sets)
    return best[0]


def tells(lists, chooser):
    for some, picks in picks_of(chooser).items():
        found = {next((x for x in row if x in some), None) for row in lists} - {None}
        if tuple(sorted(found)) != picks:
            return False
    return True


def after(trade, dated, deed):
    days = dict(dated)
    if deed[0] == "come":
        days[deed[1]] = trade.lives[deed[1]]
    elif deed[0] == "gone":
        days.pop(deed[1], None)
    else:
        days = {offer: left - 1 for offer, left in days.items() if left > 1}
    return tuple(sorted(days.items()))


def stands(trade, stream, start=()):
    for deed in stream:
        start = after(trade, start, deed)
    return start


def picks_at(chooser, dated):
    return picks_of(chooser)[tuple(offer for offer, _ in dated)]


def skyline(chooser, trade, dated):
    found = []
    for offer, days in dated:
        beside = [y for y, left in dated if y not in trade.loose and left >= days]
        if offer in picks_of(chooser)[union(beside, (offer,))]:
            found.append((offer, days))
    return tuple(found)


def shown_by_streams(chooser, trade, dated, offer):
    """Whether some stream shows the offer: all that stands behind streams without its coming is looked at."""
    met, rows = {dated}, [dated]
    while rows:
        state = rows.pop()
        if offer not in dict(state):
            continue
        if offer in picks_at(chooser, state):
            return True
        for deed in deeds_of_trade(trade):
            found = after(trade, state, deed)
            if deed != ("come", offer) and found not in met:
                met.add(found)
                rows.append(found)
    return False


def classes(trade, answer):
    """For each dated set the number of its class: the same answers behind each stream."""
    stood = every_dated(trade)
    marks = {dated: repr(answer(dated)) for dated in stood}
    while True:
        rows = {
            dated: (marks[dated], *[marks[after(trade, dated, deed)] for deed in deeds_of_trade(trade)])
            for dated in stood
        }
        numbers = {row: number for number, row in enumerate(sorted(set(rows.values())))}
        if len(numbers) == len(set(marks.values())):
            return {dated: numbers[rows[dated]] for dated in stood}
        marks = {dated: repr(numbers[rows[dated]]) for dated in stood}


def first_stream(trade, is_right, longest):
    """The first stream of up to so many deeds that is right, None if there is none."""
    for stream in streams_in_order(trade, longest):
        if is_right(stream):
            return stream
    return None


def does_show(chooser, trade, dated, offer, stream):
    end = stands(trade, stream, dated)
    return ("come", offer) not in stream and offer in dict(end) and offer in picks_at(chooser, end)


def does_part(chooser, trade, one, other, stream):
    return picks_at(chooser, stands(trade, stream, one)) != picks_at(chooser, stands(trade, stream, other))


def is_guard(chooser, trade, dated, offer, some):
    days = dict(dated)
    for other in some:
        if other == offer or other in trade.loose or days.get(other, 0) < days[offer]:
            return False
    return offer not in picks_of(chooser)[union(some, (offer,))]


def is_agreed(near, far, some):
    return picks_of(near)[some] == some == picks_of(far)[some]


def is_wished(chooser, some, offer):
    return offer not in some and offer in picks_of(chooser)[union(some, (offer,))]


def is_settled(near, far, standing, part):
    if not set(part) <= set(standing) or not is_agreed(near, far, part):
        return False
    return not any(is_wished(near, part, x) and is_wished(far, part, x) for x in standing)


def settled_sets(near, far, standing):
    return tuple(part for part in parts_of(standing) if is_settled(near, far, standing, part))


def is_as_good(chooser, one, other):
    return picks_of(chooser)[union(one, other)] == one


def best_settled(near, far, standing):
    """The settled set that is as good for the near side as each other one."""
    sets = settled_sets(near, far, standing)
    best = [one for one in sets if all(is_as_good(near, one, other) for other in sets)]
    assert len(best) == 1 and all(is_as_good(far, other, best[0]) for other in sets)
    return best[0]


def rounds_of(near, far, standing):
    ever, refused, rounds = set(), set(), []
    while True:
        proposed = picks_of(near)[tuple(x for x in standing if x not in refused)]
        ever |= set(proposed)
        kept = picks_of(far)[tuple(sorted(ever))]
        rounds.append((proposed, kept))
        new = ever - set(kept) - refused
        if not new:
            return tuple(rounds)
        refused |= new


def answer_to(question, some):
    if question[0] == "picks":
        return picks_of(question[1])[some]
    if question[0] == "takes":
        return question[2] in picks_of(question[1])[some]
    ask = settled_sets if question[0] == "settled" else best_settled
    return ask(question[1], question[2], some)


def rows_of(items, many):
    """All tuples of so many of the items."""
    return list(product(items, repeat=many))


def every_of(offers):
    """The chooser that takes all of each set."""
    return Chooser(offers, tuple(sets_of(offers)))


def presses(near, far, standing, part):
    """What comes of each offer that can be pressed into an agreed part."""
    found = {}
    for x in standing:
        if is_wished(near, part, x) and is_wished(far, part, x):
            whole = union(part, (x,))
            found[x] = tuple(sorted(set(picks_of(near)[whole]) & set(picks_of(far)[whole])))
    return found


def pressed_in(near, far, standing, part, offers):
    """What comes of any values, one behind the other; None where one cannot be pressed in."""
    for x in offers:
        if type(x) is not int or x not in presses(near, far, standing, part):
            return None
        part = presses(near, far, standing, part)[x]
    return part


def parts_behind(near, far, standing, part):
    met, rows = {part}, [part]
    while rows:
        for found in presses(near, far, standing, rows.pop()).values():
            if found not in met:
                met.add(found)
                rows.append(found)
    return tuple(sorted(met, key=lambda some: (len(some), some)))


def stand_in(dated):
    return tuple(offer for offer, _ in dated)


def positions(near, far, trade):
    return sorted(
        (dated, kept) for dated in every_dated(trade) for kept in settled_sets(near, far, stand_in(dated))
    )


def settler_moves(near, far, trade, position, deed):
    dated = after(trade, position[0], deed)
    return [(dated, kept) for kept in sorted(settled_sets(near, far, stand_in(dated)))]


def broken(position, following):
    return tuple(x for x in position[1] if x in stand_in(following[0]) and x not in following[1])


def pledges(near, far, trade):
    return sorted(
        (dated, kept) for dated in every_dated(trade)
        for kept in parts_of(stand_in(dated)) if is_agreed(near, far, kept)
    )


def waiting(near, far, pledge):
    dated, kept = pledge
    return tuple(x for x in stand_in(dated) if is_wished(near, kept, x) and is_wished(far, kept, x))


def keeper_turns(near, far, trade, pledge, deed):
    dated = after(trade, pledge[0], deed)
    left = set(pledge[1]) & set(stand_in(dated))
    rows = [part for part in parts_of(stand_in(dated)) if left <= set(part) and is_agreed(near, far, part)]
    return [(dated, kept) for kept in sorted(rows)]


def views(trade, share):
    return sorted(dated for dated in every_dated(trade) if set(stand_in(dated)) <= set(share))


def view(share, dated):
    return tuple(pair for pair in dated if pair[0] in share)


def told(chooser, trade, word, dated):
    """What is to be told of a dated set, now or on."""
    return picks_at(chooser, dated) if word == "now" else skyline(chooser, trade, dated)


def slip(shares, office, dated):
    return tuple(dict(rows)[view(share, dated)] for share, rows in zip(shares, office))


def marks_along(shares, relay, dated):
    marks = [0]
    for share, table in zip(shares, relay):
        marks.append(next(after for mark, seen, after in table if (mark, seen) == (marks[-1], view(share, dated))))
    return tuple(marks[1:])


def every_shares(offers):
    """All shares of so many offers."""
    rows = [((0,),)] if offers == 1 else []
    for part in every_shares(offers - 1) if offers > 1 else []:
        rows += [part[:at] + ((*part[at], offers - 1),) + part[at + 1:] for at in range(len(part))]
        rows += [part[:at] + ((offers - 1,),) + part[at:] for at in range(len(part) + 1)]
    return rows


def gets(market, lists, house):
    """The offer that a house gets if these lists are told, by rounds of the document."""
    firsts = by_told(market, lists)
    got = best_settled(firsts, market.taker, tuple(range(market.taker.offers)))
    there = [x for x in got if x in market.shares[house]]
    assert len(there) <= 1
    return there[0] if there else None


def by_told(market, lists):
    picks = []
    for some in sets_of(market.taker.offers):
        found = {next((x for x in row if x in some), None) for row in lists} - {None}
        picks.append(tuple(sorted(found)))
    return Chooser(market.taker.offers, tuple(picks))


def has_rather(market, house, one, other):
    """Whether a house has one offer, or None, rather than another: by what is listed, nothing, all else."""
    row = [*market.lists[house], None]
    if one not in row:
        return False
    return other not in row or row.index(one) < row.index(other)
