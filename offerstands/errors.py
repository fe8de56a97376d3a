"""All errors of the package; each bears its parameters as attributes."""


class OfferError(Exception):
    """The base class of all errors of this package."""


class OtherOffers(OfferError):
    """Objects that go into one call have not equally many offers."""


class TooMany(OfferError):
    """What is asked for has more parts than there may be at most."""

    def __init__(self, most):
        self.most = most


class BadText(OfferError):
    """A value is not the text that is asked for, first seen at a line."""

    def __init__(self, line):
        self.line = line


class BadChooser(OfferError):
    """A part of what a chooser is made of is not as told."""

    def __init__(self, part):
        self.part = part


class BadSet(OfferError):
    """A value is no set of the offers, or no part where one is asked for."""

    def __init__(self, thing):
        self.thing = thing


class BadList(OfferError):
    """An item of lists is no list; -1 where there are no lists at all."""

    def __init__(self, number):
        self.number = number


class Against(OfferError):
    """A set and a part of it show that a chooser cannot be asked apart."""

    def __init__(self, one, part):
        self.one = one
        self.part = part


class BadTrade(OfferError):
    """A part of what a trade is made of is not as told."""

    def __init__(self, part):
        self.part = part


class BadDated(OfferError):
    """A value is no dated set within the trade."""

    def __init__(self, thing):
        self.thing = thing


class BadStream(OfferError):
    """A value is no stream of the trade."""

    def __init__(self, thing):
        self.thing = thing


class BadOffer(OfferError):
    """A value is no offer of the kind that is asked for."""

    def __init__(self, thing):
        self.thing = thing


class BadQuestion(OfferError):
    """A value is no question."""

    def __init__(self, thing):
        self.thing = thing


class BadNotebook(OfferError):
    """A value is no notebook of the trade."""

    def __init__(self, thing):
        self.thing = thing


class BadNote(OfferError):
    """A value is no note of the notebook."""

    def __init__(self, number):
        self.number = number


class BadCalendar(OfferError):
    """A value is no calendar of the trade."""

    def __init__(self, thing):
        self.thing = thing


class BadWorths(OfferError):
    """A value does not tell the worth of each offer."""

    def __init__(self, thing):
        self.thing = thing


class NotWished(OfferError):
    """A value cannot be pressed in."""

    def __init__(self, offer):
        self.offer = offer


class BadPosition(OfferError):
    """A value is no position, or no pledge."""

    def __init__(self, thing):
        self.thing = thing


class BadDeed(OfferError):
    """A value is no deed of the trade."""

    def __init__(self, thing):
        self.thing = thing


class CannotKeep(OfferError):
    """Word cannot be kept with so few offers waiting."""

    def __init__(self, paper):
        self.paper = paper


class BadShares(OfferError):
    """A value is no shares of the offers."""

    def __init__(self, thing):
        self.thing = thing


class BadOffice(OfferError):
    """A value is no office for the shares."""

    def __init__(self, thing):
        self.thing = thing


class BadRelay(OfferError):
    """A value is no relay for the shares."""

    def __init__(self, thing):
        self.thing = thing


class BadLists(OfferError):
    """A value is no lists, or no list, of the houses of a market."""

    def __init__(self, thing):
        self.thing = thing


class BadName(OfferError):
    """A value cannot be the name of a new show."""

    def __init__(self, name):
        self.name = name


class NoName(OfferError):
    """No show is kept under a name."""

    def __init__(self, name):
        self.name = name


class NameTaken(OfferError):
    """A show is kept under a name already."""

    def __init__(self, name):
        self.name = name


class BadPart(OfferError):
    """A part of what a show is made of is not as told."""

    def __init__(self, part):
        self.part = part


class EditionNotApart(OfferError):
    """A chooser of an edition cannot be asked apart."""

    def __init__(self, number, paper):
        self.number = number
        self.paper = paper


class Shown(OfferError):
    """A stream shows that an edition is another one."""

    def __init__(self, stream):
        self.stream = stream


class Unkept(OfferError):
    """An edition does not keep a promise."""

    def __init__(self, promise, fault):
        self.promise = promise
        self.fault = fault


class BadPromise(OfferError):
    """A value is no promise for a show, or is made already."""

    def __init__(self, promise):
        self.promise = promise


class NoPromise(OfferError):
    """A value is not promised."""

    def __init__(self, promise):
        self.promise = promise


class NothingToUndo(OfferError):
    """There is nothing that could be taken back."""


class BadChange(OfferError):
    """An item of a log is no change, or cannot be made."""

    def __init__(self, number):
        self.number = number


class Full(OfferError):
    """There is no room for a further offer."""

    def __init__(self, offer):
        self.offer = offer


class InvalidCommand(OfferError):
    """A value is no command of the console."""
