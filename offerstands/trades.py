"""Trades, dated sets, streams and their texts ([2.1], [2.2])."""

from offerstands.choosers import is_set
from offerstands.errors import BadDated, BadStream, BadText, BadTrade
from offerstands.values import (
    is_integer_within, line_at, numbered_head, require_last, text_lines,
)

MOST_LIVES = 9
LONGEST_LIFE = 99


class Trade:
    """Tells of each offer how long it stands, and whether it can be taken back."""

    def __init__(self, lives, loose):
        if not are_lives(lives):
            raise BadTrade("lives")
        if not is_set(len(lives), loose):
            raise BadTrade("loose")
        self.lives = lives
        self.loose = loose

    def __len__(self):
        return len(self.lives)

    def __eq__(self, other):
        return isinstance(other, Trade) and self.lives == other.lives and self.loose == other.loose

    def __str__(self):
        kinds = ["loose" if offer in self.loose else "firm" for offer in range(len(self.lives))]
        rows = [offer_line(life, kind) for life, kind in zip(self.lives, kinds)]
        return "\n".join([f"trade {len(self.lives)}"] + rows)

    @classmethod
    def read(cls, text):
        """The trade with a text."""
        lines = text_lines(text)
        rows = rows_read(numbered_head(lines, "trade", MOST_LIVES), lines)
        loose = [offer for offer, (_, kind) in enumerate(rows) if kind == "loose"]
        return cls(tuple([life for life, _ in rows]), tuple(loose))


def are_lives(thing):
    """Whether any value is a tuple of lives, as many as a trade can have."""
    if not isinstance(thing, tuple) or not 1 <= len(thing) <= MOST_LIVES:
        return False
    return all([is_integer_within(life, 1, LONGEST_LIFE) for life in thing])


def offer_line(life, kind):
    """The line of an offer in the text of a trade."""
    return f"offer {life} {kind}"


def rows_read(offers, lines):
    """The pairs of a life and a kind that the lines of a text tell behind the first one."""
    pairs = [(life, kind) for life in range(1, LONGEST_LIFE + 1) for kind in ("firm", "loose")]
    told = {offer_line(life, kind): (life, kind) for life, kind in pairs}
    rows = []
    for number in range(2, offers + 2):
        line = line_at(lines, number)
        if line not in told:
            raise BadText(number)
        rows.append(told[line])
    require_last(lines, offers + 1)
    return rows


def is_dated(trade, thing):
    """Whether any value is a dated set within a trade."""
    if not isinstance(thing, tuple):
        return False
    least = 0
    for item in thing:
        if not isinstance(item, tuple) or len(item) != 2:
            return False
        offer, days = item
        if not is_integer_within(offer, least, len(trade) - 1):
            return False
        if not is_integer_within(days, 1, trade.lives[offer]):
            return False
        least = offer + 1
    return True


def is_stream(trade, thing):
    """Whether any value is a stream of a trade's offers."""
    return isinstance(thing, tuple) and all([is_deed(trade, item) for item in thing])


def is_deed(trade, thing):
    """Whether any value is a deed of a trade."""
    if not isinstance(thing, tuple):
        return False
    if len(thing) == 1:
        return thing[0] == "day"
    if len(thing) != 2 or not is_integer_within(thing[1], 0, len(trade) - 1):
        return False
    return thing[0] == "come" or (thing[0] == "gone" and thing[1] in trade.loose)


def all_deeds(trade):
    """All deeds of a trade, ascending."""
    comings = [("come", offer) for offer in range(len(trade))]
    return tuple([*comings, ("day",)] + [("gone", offer) for offer in trade.loose])


def stream_text(stream):
    """The text of a stream."""
    return " ".join([deed_word(deed) for deed in stream]) if stream else "0"


def deed_word(deed):
    """The word of a deed in the text of a stream."""
    if deed[0] == "day":
        return "."
    return f"+{deed[1]}" if deed[0] == "come" else f"-{deed[1]}"


def stream_read(trade, text):
    """The stream with a text."""
    if not isinstance(text, str):
        raise BadText(0)
    if text == "0":
        return ()
    told = {deed_word(deed): deed for deed in all_deeds(trade)}
    words = text.split(" ")
    if not all([word in told for word in words]):
        raise BadText(0)
    return tuple([told[word] for word in words])


def put_together(one, other):
    """Each offer of either dated set, with the greater of its days."""
    days_of = dict(one)
    for offer, days in other:
        days_of[offer] = max(days, days_of.get(offer, 0))
    return tuple(sorted(days_of.items()))


def aged(dated, days):
    """A dated set so many days later."""
    return tuple([(offer, left - days) for offer, left in dated if left > days])


def offers_of(dated):
    """The set of all offers that stand in a dated set."""
    return tuple([offer for offer, _ in dated])


def all_dated(trade):
    """A list of all dated sets within a trade."""
    return dated_of(trade, tuple(range(len(trade))))


def dated_of(trade, some):
    """A list of all dated sets within a trade whose offers are in a set."""
    found = [()]
    for offer in some:
        grown = [(*dated, (offer, days)) for dated in found for days in range(1, trade.lives[offer] + 1)]
        found = found + grown
    return found


def require_dated(trade, thing):
    """Raise BadDated for a value that is no dated set within the trade."""
    if not is_dated(trade, thing):
        raise BadDated(thing)


def require_stream(trade, thing):
    """Raise BadStream for a value that is no stream of the trade."""
    if not is_stream(trade, thing):
        raise BadStream(thing)
