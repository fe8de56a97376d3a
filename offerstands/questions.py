"""Questions about the set of the offers that stand ([3.1], [3.2])."""

from offerstands.choosers import Chooser, all_sets, require_set
from offerstands.errors import BadQuestion
from offerstands.lists import is_apart
from offerstands.rounds import best_settled
from offerstands.sides import settled_sets
from offerstands.trades import all_deeds
from offerstands.values import is_integer_within, is_paper, require_equal_offers


def is_question(thing):
    """Whether any value is a question."""
    if is_paper(thing, "picks", 2):
        return isinstance(thing[1], Chooser)
    if is_paper(thing, "takes", 3):
        return isinstance(thing[1], Chooser) and is_integer_within(thing[2], 0, len(thing[1]) - 1)
    if is_paper(thing, "settled", 3) or is_paper(thing, "best", 3):
        return are_sides(thing[1], thing[2])
    return False


def answer_to(question, offers):
    """The answer to a question about a set of offers."""
    require_question(question)
    require_set(question[1], offers)
    return answer_of(question, offers)


def deeds_of(trade):
    """All deeds of a trade, ascending."""
    return all_deeds(trade)


def are_sides(near, far):
    """Whether two values are choosers that can be two sides."""
    if not isinstance(near, Chooser) or not isinstance(far, Chooser) or len(near) != len(far):
        return False
    return is_apart(near) and is_apart(far)


def answer_of(question, some):
    """What is answered to a right question about a set of its offers."""
    word, chooser = question[:2]
    if word == "picks":
        return chooser.taken(some)
    if word == "takes":
        return question[2] in chooser.taken(some)
    if word == "settled":
        return settled_sets(chooser, question[2], some)
    return best_settled(chooser, question[2], some)


def answers_to(question):
    """A dict with the answer about each set of offers."""
    return {some: answer_of(question, some) for some in all_sets(question[1].offers)}


def require_question(thing):
    """Raise BadQuestion for a value that is no question."""
    if not is_question(thing):
        raise BadQuestion(thing)


def require_asked(question, trade):
    """Raise BadQuestion, or OtherOffers if a question is of another number of offers than a trade."""
    require_question(question)
    require_equal_offers(question[1], trade)
