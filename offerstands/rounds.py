"""Rounds in which one side proposes and the other one keeps ([5.2], [5.3])."""

from offerstands.choosers import is_within, require_set, together, without
from offerstands.values import require_equal_offers


def rounds_of(near, far, standing):
    """The pairs of what is proposed and what is kept, round by round."""
    require_equal_offers(near, far)
    require_set(near, standing)
    rounds = []
    ever = ()
    refused = ()
    is_last = False
    while not is_last:
        proposed = near.taken(without(standing, refused))
        ever = together(ever, proposed)
        kept = far.taken(ever)
        rounds.append((proposed, kept))
        is_last = is_within(without(ever, kept), refused)
        refused = together(refused, without(ever, kept))
    return tuple(rounds)


def best_settled(near, far, standing):
    """The settled set that is best for the near side."""
    return rounds_of(near, far, standing)[-1][1]
