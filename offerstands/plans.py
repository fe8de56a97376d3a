"""Plans by which word is kept, and what bars them ([8.2], [8.3])."""

from offerstands.positions import BEGINNING, require_house
from offerstands.trades import all_deeds, is_deed
from offerstands.values import is_ascending, is_integer, is_paper
from offerstands.waits import agreed_table, is_pledge, pledges_of, turns_by, waiting_in


def least_waiting(near, far, trade, *, most=400):
    """The least number that some keeper never has more offers waiting than."""
    pledges = pledges_of(near, far, trade, most=most)
    turns = all_turns(near, far, trade, pledges)
    waiting = many_waiting(near, far, pledges)
    number = 0
    while BEGINNING not in greatest_rows(turns, waiting, number):
        number += 1
    return number


def judge_waiting(near, far, trade, number, *, most=400):
    """A paper: a plan with at most so many waiting, or pledges with least ranks that bar it."""
    return waiting_paper(near, far, trade, number, pledges_of(near, far, trade, most=most))


def waiting_holds(near, far, trade, number, thing):
    """Whether any value is a paper on whether there is a plan with at most so many waiting."""
    require_house(near, far, trade)
    if is_paper(thing, "plan", 2) and are_pledges(near, far, trade, thing[1], 2):
        return is_plan(near, far, trade, number, thing[1])
    if is_paper(thing, "barred", 2) and are_pledges(near, far, trade, thing[1], 4):
        return do_bar(near, far, trade, number, thing[1])
    return False


def fewest_deeds(near, far, trade, number, *, most=400):
    """The fewest deeds that are enough, whoever keeps, for more to wait, None if there is a plan."""
    pledges = pledges_of(near, far, trade, most=most)
    turns = all_turns(near, far, trade, pledges)
    barring = least_ranks(turns, many_waiting(near, far, pledges), number)
    return barring[BEGINNING][0] + 1 if BEGINNING in barring else None


def greatest_plan(near, far, trade, number, *, most=400):
    """All pledges that any plan has, ascending."""
    pledges = pledges_of(near, far, trade, most=most)
    return greatest_rows(all_turns(near, far, trade, pledges), many_waiting(near, far, pledges), number)


def waiting_paper(near, far, trade, number, pledges):
    """A paper, by all pledges: a plan with at most so many waiting, or pledges with least ranks that bar it."""
    turns = all_turns(near, far, trade, pledges)
    waiting = many_waiting(near, far, pledges)
    plan = greatest_rows(turns, waiting, number)
    if BEGINNING in plan:
        return ("plan", plan)
    barring = least_ranks(turns, waiting, number)
    return ("barred", tuple(sorted([(*pledge, *barring[pledge]) for pledge in barring])))


def all_turns(near, far, trade, pledges):
    """For each pledge and each deed the pledges to which turns lead."""
    agreed = agreed_table(near, far)
    deeds = all_deeds(trade)
    return {pledge: {deed: turns_by(trade, agreed, pledge, deed) for deed in deeds} for pledge in pledges}


def many_waiting(near, far, pledges):
    """How many offers wait in each pledge."""
    return {pledge: len(waiting_in(near, far, pledge)) for pledge in pledges}


def greatest_rows(turns, waiting, number):
    """All pledges, ascending, with at most so many waiting, that some turn leaves for another one by each deed."""
    plan = {pledge: True for pledge in turns if waiting[pledge] <= number}
    many = len(plan) + 1
    while len(plan) < many:
        many = len(plan)
        plan = {pledge: True for pledge in plan if do_turns_lead(turns[pledge], plan)}
    return tuple(sorted(list(plan)))


def do_turns_lead(turns, plan):
    """Whether by each deed some turn leads to one of the pledges of a plan."""
    return all([any([following in plan for following in turns[deed]]) for deed in turns])


def least_ranks(turns, waiting, number):
    """For each pledge that can be barred its least rank, and the first deed that bars it with this rank."""
    barring = {}
    rank = 0
    many = -1
    while many < len(barring):
        many = len(barring)
        found = {}
        for pledge in [row for row in turns if row not in barring]:
            deeds = [
                deed for deed in turns[pledge]
                if all([waiting[other] > number or other in barring for other in turns[pledge][deed]])
            ]
            if deeds:
                found[pledge] = (rank, deeds[0])
        for pledge in found:
            barring[pledge] = found[pledge]
        rank += 1
    return barring


def are_pledges(near, far, trade, thing, size):
    """Whether any value is an ascending tuple of pledges, each once, the beginning among them.

    Of size 4 there is an integer from 0 on and a deed behind each pledge.
    """
    if not isinstance(thing, tuple):
        return False
    for item in thing:
        if not isinstance(item, tuple) or len(item) != size or not is_pledge(near, far, trade, item[:2]):
            return False
        if size == 4 and (not is_integer(item[2]) or item[2] < 0 or not is_deed(trade, item[3])):
            return False
    pledges = [item[:2] for item in thing]
    return is_ascending(thing) and len(set(pledges)) == len(pledges) and BEGINNING in pledges


def is_plan(near, far, trade, number, rows):
    """Whether few enough wait in each of some pledges, and some turn leads to one of them by each deed."""
    waiting = many_waiting(near, far, rows)
    if max(list(waiting.values())) > number:
        return False
    turns = all_turns(near, far, trade, rows)
    plan = {pledge: True for pledge in rows}
    return all([do_turns_lead(turns[pledge], plan) for pledge in rows])


def do_bar(near, far, trade, number, rows):
    """Whether by its deed each turn leads from each pledge to one with more waiting, or with a lesser rank."""
    agreed = agreed_table(near, far)
    ranks = {(dated, kept): rank for dated, kept, rank, _ in rows}
    for dated, kept, rank, deed in rows:
        for following in turns_by(trade, agreed, (dated, kept), deed):
            is_less = following in ranks and ranks[following] < rank
            if not is_less and len(waiting_in(near, far, following)) <= number:
                return False
    return True
