"""A keeper: says behind each deed what is kept from then on, and never breaks word ([8.2])."""

from offerstands.errors import CannotKeep, NothingToUndo
from offerstands.plans import waiting_paper
from offerstands.positions import BEGINNING, require_deed
from offerstands.waits import agreed_table, every_pledge, turns_by, waiting_in


class Keeper:
    """Keeps word with at most so many offers waiting, from nothing on."""

    def __init__(self, near, far, trade, number):
        paper = waiting_paper(near, far, trade, number, every_pledge(near, far, trade))
        if paper[0] == "barred":
            raise CannotKeep(paper)
        self._sides = (near, far)
        self._trade = trade
        self._agreed = agreed_table(near, far)
        self._plan = {pledge: True for pledge in paper[1]}
        self._pledges = [BEGINNING]
        self._waiting = [()]
        self._deeds = []

    def take(self, deed):
        """Do a deed; what is kept then."""
        require_deed(self._trade, deed)
        turns = turns_by(self._trade, self._agreed, self._pledges[-1], deed)
        waiting, pledge = fewest_waiting(self._sides, [turn for turn in turns if turn in self._plan])
        self._pledges.append(pledge)
        self._waiting.append(waiting)
        self._deeds.append(deed)
        return pledge[1]

    def undo(self):
        """Take the last deed back."""
        if len(self._deeds) == 0:
            raise NothingToUndo()
        self._deeds.pop()
        self._waiting.pop()
        self._pledges.pop()

    @property
    def standing_now(self):
        """The dated set that stands."""
        return self._pledges[-1][0]

    @property
    def kept_word(self):
        """The set of the offers that are kept."""
        return self._pledges[-1][1]

    @property
    def waiting_now(self):
        """The set of the offers that wait."""
        return self._waiting[-1]

    @property
    def deeds_past(self):
        """The tuple of all deeds."""
        return tuple(self._deeds)


def fewest_waiting(sides, pledges):
    """What waits in the first of the pledges in which fewest offers wait, and this pledge."""
    near, far = sides
    rows = [(waiting_in(near, far, pledge), pledge) for pledge in pledges]
    return min(rows, key=lambda row: len(row[0]))
