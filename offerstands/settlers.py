"""A settler: says behind each deed which loans are kept ([7.2])."""

from offerstands.errors import NothingToUndo
from offerstands.means import calm_moves
from offerstands.positions import BEGINNING, broken_by, require_deed, require_house


class Settler:
    """Moves by calm cells for the mean, from nothing on."""

    def __init__(self, near, far, trade):
        require_house(near, far, trade)
        self._trade = trade
        self._moves = calm_moves(near, far, trade)
        self._positions = [BEGINNING]
        self._deeds = []

    def take(self, deed):
        """Do a deed; what is kept then."""
        require_deed(self._trade, deed)
        position = self._moves[self._positions[-1]][deed]
        self._positions.append(position)
        self._deeds.append(deed)
        return position[1]

    def undo(self):
        """Take the last deed back."""
        if len(self._deeds) == 0:
            raise NothingToUndo()
        self._deeds.pop()
        self._positions.pop()

    @property
    def stood(self):
        """The dated set that stands."""
        return self._positions[-1][0]

    @property
    def kept_now(self):
        """The set of the loans that are kept."""
        return self._positions[-1][1]

    @property
    def broken_so_far(self):
        """How many loans were broken in all."""
        rows = self._positions
        return sum([len(broken_by(one, other)) for one, other in zip(rows, rows[1:])])

    @property
    def deeds_done(self):
        """The tuple of all deeds."""
        return tuple(self._deeds)
