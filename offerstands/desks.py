"""Desks: they go along a stream of a show, by one of its editions ([11.4])."""

from offerstands.errors import Full, NothingToUndo
from offerstands.positions import require_deed
from offerstands.skylines import skyline_of
from offerstands.streams import behind, picked


class Desk:
    """Goes along a stream, from nothing on; made by a house for the show that is kept under a name."""

    def __init__(self, house, name):
        self._house = house
        self._name = name
        self._number = house.number_of(name)
        self._trade = house.trade_of(name)
        self._room = house.room_of(name)
        self._edition = house.editions(name)[-1]
        self._stood = [()]
        self._deeds = []
        self._look()

    def take(self, deed):
        """Do a deed; what each chooser takes then."""
        require_deed(self._trade, deed)
        dated = behind(self._trade, self._stood[-1], deed)
        if deed[0] == "come" and len(dated) > self._room:
            raise Full(deed[1])
        self._stood.append(dated)
        self._deeds.append(deed)
        self._look()
        return self._taken

    def undo(self):
        """Take the last deed back."""
        if len(self._deeds) == 0:
            raise NothingToUndo()
        self._deeds.pop()
        self._stood.pop()
        self._look()

    def move_on(self):
        """Go by the edition in use from now on."""
        self._edition = self._house.edition_in_use(self._name, self._number)
        self._look()

    @property
    def stands_now(self):
        """The dated set that stands."""
        return self._stood[-1]

    @property
    def stream_now(self):
        """The stream that was gone along."""
        return tuple(self._deeds)

    @property
    def skylines_now(self):
        """The skyline by each chooser."""
        return self._skylines

    @property
    def taken_now(self):
        """What each chooser takes."""
        return self._taken

    def _look(self):
        """Put down what the choosers make of what stands now."""
        dated = self._stood[-1]
        self._skylines = tuple([skyline_of(chooser, self._trade, dated) for chooser in self._edition])
        self._taken = tuple([picked(chooser, dated) for chooser in self._edition])
