"""Dated sets that are one for a question ([3.3], [3.4])."""

from offerstands.questions import answers_to, require_asked, require_question
from offerstands.streams import behind, search, stands
from offerstands.trades import all_dated, all_deeds, is_dated, is_stream, offers_of, require_dated
from offerstands.values import is_ascending, is_paper


def are_one(question, trade, one, other):
    """Whether two dated sets are one for a question."""
    return first_unlike(question, trade, one, other) is None


def first_unlike(question, trade, one, other):
    """The first stream behind which the answers are unlike, None if there is none."""
    require_asked_of(question, trade, one, other)
    return unlike_search(question, trade, one, other)[0]


def judge_one(question, trade, one, other):
    """A paper: all pairs that come of two dated sets, or the first stream behind which answers are unlike."""
    require_asked_of(question, trade, one, other)
    stream, met = unlike_search(question, trade, one, other)
    if stream is None:
        return ("one", tuple(sorted(met)))
    return ("unlike", stream)


def one_holds(question, trade, one, other, thing):
    """Whether any value is a paper on whether two dated sets are one for a question."""
    require_asked_of(question, trade, one, other)
    answers = answers_to(question)
    if is_paper(thing, "one", 2) and are_pairs(trade, thing[1]):
        return (one, other) in thing[1] and are_led_on(answers, trade, thing[1])
    if is_paper(thing, "unlike", 2) and is_stream(trade, thing[1]):
        ends = [offers_of(stands(trade, thing[1], start=dated)) for dated in (one, other)]
        return answers[ends[0]] != answers[ends[1]]
    return False


def is_told_by(question, other, trade):
    """Whether a question is told by another one."""
    return first_untold(question, other, trade) is None


def first_untold(question, other, trade):
    """The least pair of dated sets that are one for another question and not for this one, or None."""
    require_question(question)
    require_question(other)
    require_asked(question, trade)
    require_asked(other, trade)
    mine = class_numbers(question, trade)
    others = class_numbers(other, trade)
    rows = sorted(all_dated(trade))
    for at, dated in enumerate(rows):
        for further in rows[at + 1:]:
            if others[dated] == others[further] and mine[dated] != mine[further]:
                return (dated, further)
    return None


def require_asked_of(question, trade, one, other):
    """Raise BadQuestion, OtherOffers, or BadDated for the first of two values that is no dated set."""
    require_asked(question, trade)
    require_dated(trade, one)
    require_dated(trade, other)


def unlike_search(question, trade, one, other):
    """The first stream behind which the answers are unlike, or None, and all pairs that were met."""
    answers = answers_to(question)
    return search(
        trade, all_deeds(trade), (one, other),
        lambda state: answers[offers_of(state[0])] != answers[offers_of(state[1])],
    )


def are_pairs(trade, thing):
    """Whether any value is an ascending tuple of pairs of dated sets within the trade."""
    if not isinstance(thing, tuple):
        return False
    for item in thing:
        if not isinstance(item, tuple) or len(item) != 2:
            return False
        if not is_dated(trade, item[0]) or not is_dated(trade, item[1]):
            return False
    return is_ascending(thing)


def are_led_on(answers, trade, pairs):
    """Whether the answers are the same for each pair, and each deed leads from a pair to a pair."""
    steps = steps_of(trade)
    there = {pair: True for pair in pairs}
    for one, other in pairs:
        if answers[offers_of(one)] != answers[offers_of(other)]:
            return False
        for pair in zip(steps[one], steps[other]):
            if pair not in there:
                return False
    return True


def steps_of(trade):
    """For each dated set within a trade what stands behind each deed."""
    deeds = all_deeds(trade)
    return {dated: [behind(trade, dated, deed) for deed in deeds] for dated in all_dated(trade)}


def class_numbers(question, trade):
    """For each dated set within a trade the number of its class: those that are one for a question."""
    answers = answers_to(question)
    steps = steps_of(trade)
    return parted(numbered({dated: answers[offers_of(dated)] for dated in steps}), steps)


def parted(numbers, steps):
    """For each state the number of its class: deeds lead all states of a class to those of one class.

    Classes come of those that are passed, which are parted by where deeds lead till nothing is
    parted any more (E. Moore).
    """
    many = 0
    while many < len(set(list(numbers.values()))):
        many = len(set(list(numbers.values())))
        numbers = numbered({
            state: (numbers[state], *[numbers[found] for found in steps[state]]) for state in steps
        })
    return numbers


def numbered(rows):
    """The same number for the same value in a dict, unlike ones for unlike values."""
    told = {}
    for value in rows.values():
        if value not in told:
            told[value] = len(told)
    return {key: told[rows[key]] for key in rows}
