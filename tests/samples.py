"""What the tests share: sample choosers and trades, any values, spoilt papers, checks of calls."""

import inspect
import random
from itertools import combinations, permutations, product

from offerstands import errors
from offerstands.choosers import Chooser, all_sets
from offerstands.console import Console
from offerstands.house import House
from offerstands.keepers import Keeper
from offerstands.lists import by_lists
from offerstands.making import either_of, first_some, in_turn, leaving_out
from offerstands.markets import Market
from offerstands.settlers import Settler
from offerstands.trades import Trade

TWO = by_lists(3, ((0, 1, 2), (2, 1)))
BEST = by_lists(2, ((1, 0),))
BOTH = by_lists(2, ((0,), (1,)))
NONE = Chooser(2, ((), (), (), ()))
NOT_APART = Chooser(2, ((), (0,), (1,), ()))
T = Trade((2, 2), ())
U = Trade((2, 2), (1,))
LEAST = by_lists(3, ((0, 1, 2),))
GREATEST = by_lists(3, ((2, 1, 0),))
EVERY = by_lists(3, ((0,), (1,), (2,)))
LENDERS = by_lists(4, ((1, 0), (3, 2)))
TAKERS = by_lists(4, ((0, 3), (2, 1)))
SETTLER = Settler(BEST, BOTH, Trade((1, 1), ()))
KEEPER = Keeper(BEST, BOTH, Trade((1, 1), ()), 1)
MARKET = Market(BEST, ((0,), (1,)), ((0,), (1,)))
HOUSE, CONSOLE = House(), Console()
HOUSE.set_up("a", Trade((1, 1), ()), 1, (BEST,))
DESK = HOUSE.desk("a")
ONE = "chooser 1\n-\n0"


def deep(value, levels):
    for _ in range(levels):
        value = (value,)
    return value


def any_values():
    """Values of all kinds, none of them right for anything but by chance."""
    return [
        "", "0", "-", "lists", "day", "a\nb", "x" * 2000, 0, 1, -1, 2, 7, 10 ** 39, -10 ** 39,
        True, False, None, [], [0], [()], (), (0,), (1,), (True,), (False,), (0, 1), (1, 0), (0, 0), (0, True),
        (False, 1), (-1,), (99,), (10 ** 39,), ("0",), (None,), ((),), ([],), ({},), ((0,),), ((0, 1),), ((0, True),),
        ((False, 1),), ([0, 1],), [(0, 1)], ((0, 1, 2),), ((0, 0),), ((0, 100),), (("come", 0),), (("come", True),),
        (["come", 0],), (("day",),), ("day",), ("come", 0), (("day", 0),), (("gone", 0),), (("gone", 99),),
        (("come",),),
        deep(0, 12), deep([], 11), {}, {0: 1}, {"lists": ()}, {(): ()}, tuple(range(3000)), (0,) * 3000,
        ("lists",), ("lists", ()), ("lists", []), ("lists", None), ("lists", (), ()), ["lists", ()],
        ("lists", ((0, 0),)),
        ("against",), ("against", (), ()), ("against", [], []), ("against", (0, 1), (0,)), ("against", (0, 1), (True,)),
        ("fewest", (), ()), ("fewest", [], []), ("fewest", (), None), ("fewest", ((True,),), ((),)),
        ("guarded", ()), ("guarded", [0]), ("guarded", (True,)), ("shown", ()), ("shown", []), ("shown", (("day",),)),
        ("same", ()), ("same", []), ("same", ((0, 1),)), ("parted", ()), ("parted", (("day",),)), ("parted", "0"),
        ("settled",), ("settled", 0), ["settled"], ("left", "near", 0), ("left", "far", True), ("left", "mid", 0),
        ("left", 0, "near"), ("left", [], {}), ("wished", 0), ("wished", True), ("wished", [0]), ("wished", None),
        ("one", ()), ("one", []), ("one", (((), ()),)), ("one", ([(), ()],)), ("one", ((),)), ("unlike", ()),
        ("unlike", (("day",),)), ("unlike", None),
        ("tells", ()), ("tells", []), ("tells", ((0, ()),)), ("tells", ((False, ()),)), ("tells", ([0, ()],)),
        ("tells", ((0,),)), ("fails", ()), ("fails", (("day",),)), ("fails", None), ("within", ()), ("within", ((),)),
        ("within", (((),),)), ("within", ([()],)), ("within", [((),)]), ("beyond", ()), ("beyond", (("come", 0),)),
        ("beyond", []), ("sure",), ("vain",), ["sure"], ("sure", ()), ("vain", 0), ("open", (), ()),
        ("open", (0,), ()), ("open", (True,), ()), ("open", [0], []), ("open", None, {}), ("chain", ()),
        ("chain", (0,)), ("chain", (True,)), ("chain", [0]), ("chain", 0), ("chain", ("come", None)), ("closed", ()),
        ("closed", ((),)), ("closed", [()]), ("closed", ((0,), (True,))), ("closed", ({},)), (((0,),), (None,)),
        (((0, 0, 0),), ((),)), [((0, 0, 0),), ((),)], (((False, 0, 0),), ((),)), (((0, 0, 0, 0),), ((),)),
        ("ranks", ()), ("ranks", []), ("ranks", (((), 0),)), ("ranks", (((), False),)), ("ranks", ([(), 0],)),
        ("ranks", (((0,), 0), ((1,), 1))), ("ring", (), ()), ("ring", (), (0,)), ("ring", (True,), (0,)), ("ring", [], []),
        ("ring", None, (0,)), ("ring", (0,)), ("ring", (), ([],)), ("calm", ()), ("calm", []), ("calm", (((), (), 0),)),
        ("calm", (((), (), False),)), ("calm", (((), (), -1),)), ("calm", ([(), (), 0],)), ("calm", (((), 0),)),
        ("restless", ()), ("restless", (((), (), ("day",), 0),)), ("restless", (((), (), ["day"], 0),)),
        ("restless", (((), (), ("day",), 10 ** 39),)), ("restless", (((), (), 0),)), ("plan", ()), ("plan", []),
        ("plan", (((), ()),)), ("plan", ([(), ()],)), ("plan", (((),),)), ("barred", ()),
        ("barred", (((), (), 0, ("day",)),)), ("barred", (((), (), True, ("day",)),)), ("barred", (((), (), 0),)),
        ("barred", (((), (), 0, None),)), ((), ()), [(), ()], (((0, 1),), (0,)), (((0, 1),), (True,)), (((0, 1),), (1,)),
        ("tells", (((0, 0), ()),)), ("tells", (((0, False), ()),)), ("fails", (), ()), ("fails", [], []),
        ("fails", ((0, 1),), ()), ("fewest", ((((), 0),),), ((),)), ("fewest", ((((), False),),), ((),)), ((((), 0),),),
        [[((), 0)]], (((0, (), 0),),), (((False, (), 0),),), ("gains", 0, 0), ("gains", True, 0), ("gains", 0, None),
        ("gains", [], {}), ("true", ()), ("true", ((),)), ("true", [()]), ("true", ((), ())), ("gain", (0,)),
        ("gain", (True,)), ("gain", ()), ("gain", [0]), ("none", ()), ("none", (((0,), 0),)), ("none", (((0,), True),)),
        ("none", [((0,), 0)]), ("lists", 1), ("lists", -1), ("lists", True), ("shelf", 1), ("notes", 40), ("notes", ()),
        ("notes", ((),)), ("notes", ((), (("come", 0),))), ("notes", [()]), ("waits", 0), ("waits", True),
        ("breaks", (1, 2)), ("breaks", (1, 0)), ("breaks", [1, 2]), ("breaks", (True, 2)), ("breaks", (0, 1), ()),
        ("breaks", (1, 1), ("restless", ())), ("same settled", (0,)), ("same settled", (1, 0)), ("same settled", None),
        ("unlike", (0,)), ("unlike", (True,)), ("unlike", [0]), ("lists", 0, ("fewest", (), ())),
        ("lists", True, ("fewest", (), ())), ("set up", "b", "trade 1\noffer 1 firm", 1, (ONE,)),
        ("edition", "a", (ONE,)), ("take down", "a"), ("promise", "a", ("lists", 1)), ("release", "a", None),
        (("take down", "a"),), ("apart", ONE, ("lists", ((0,),))), ("apart", ONE), ("apart", BEST, ("lists", ())),
        ["apart", ONE, ("lists", ((0,),))], ("shown", 1, (ONE,), (ONE,), ()), ("fault", "", (), (), (), ()),
        "abcdefgh", "abcdefghi", "A", "a b", "names ", "undo undo", "set a 1", "take a +0",
        KEEPER, MARKET, HOUSE, DESK, CONSOLE, (MARKET,), [HOUSE], SETTLER, (SETTLER,), BEST, TWO, T, NOT_APART,
        (BEST,), (BEST, T), errors.BadSet(0), errors.OtherOffers(),
        ("picks", BEST), ("picks", T), ("picks", 0), ("picks",), ["picks", BEST], ("picks", BEST, 0),
        ("takes", BEST, 2),
        ("takes", BEST, True), ("takes", BEST), ("takes", 0, BEST), ("settled", BEST, TWO), ("settled", BEST),
        ("best", BEST, T), ("best", BEST, TWO), ("best", NOT_APART, BEST), (("picks",), BEST),
    ]


def freeze(value):
    """A picture of a value with the kinds of its parts, to tell whether it was changed."""
    if isinstance(value, (tuple, list)):
        return (type(value).__name__, tuple([freeze(part) for part in value]))
    if isinstance(value, dict):
        return ("dict", tuple([(freeze(key), freeze(value[key])) for key in value]))
    if isinstance(value, House):
        return ("House", freeze(value.log()))
    if isinstance(value, (Chooser, Trade, Market)):
        return (type(value).__name__, tuple([(key, freeze(part)) for key, part in sorted(vars(value).items())]))
    return (type(value).__name__, repr(value) if not isinstance(value, Exception) else id(value))


def is_same(one, other):
    """Whether two values are equal and of the same kinds, part by part."""
    return freeze(one) == freeze(other)


def called(test, function, *values, **named):
    """The result of a call by position; the same by name, and again, and nothing is changed."""
    before = freeze((values, named))
    result = function(*values, **named)
    names = list(inspect.signature(function).parameters)
    test.assertTrue(is_same(result, function(**dict(zip(names, values)), **named)), (function, values))
    test.assertTrue(is_same(result, function(*values, **named)), (function, values))
    test.assertEqual(freeze((values, named)), before)
    return result


def refused(test, error, told, function, *values, **named):
    """Check that a call raises an error of this very class, with these very values."""
    before = freeze((values, named))
    for _ in range(2):
        with test.assertRaises(errors.OfferError) as caught:
            function(*values, **named)
        test.assertIs(type(caught.exception), error, (function, values, named))
        test.assertEqual(len(vars(caught.exception)), len(told))
        for name, value in told.items():
            there = getattr(caught.exception, name)
            test.assertTrue(there is value or is_same(there, value), (function, values, name, there))
    test.assertEqual(freeze((values, named)), before)


def spoilt(value):
    """Values that come of one by putting one of its parts otherwise, leaving it out, or doubling it."""
    if isinstance(value, tuple):
        yield 0
        yield list(value)
        yield (*value, 0)
        yield (*value, ())
        for at, part in enumerate(value):
            yield value[:at] + value[at + 1:]
            yield value[:at] + (part, part) + value[at + 1:]
            for other in range(at):
                swapped = list(value)
                swapped[at], swapped[other] = swapped[other], swapped[at]
                yield tuple(swapped)
            for worse in spoilt(part):
                yield value[:at] + (worse,) + value[at + 1:]
    elif isinstance(value, bool):
        yield from (int(value), not value, None)
    elif isinstance(value, int):
        yield from (value + 1, value - 1, -value - 1, str(value), None, (value,), 10 ** 39)
        if value in (0, 1):
            yield bool(value)
    elif isinstance(value, str):
        yield from (value + " ", value.upper(), "", None, 0, (value,))
    else:
        yield from (None, 0, (value,), [value])


def every_chooser(offers):
    """All choosers of so many offers, such as cannot be asked apart, too."""
    sets = all_sets(offers)
    parts = [[part for many in range(len(some) + 1) for part in combinations(some, many)] for some in sets]
    return [Chooser(offers, picks) for picks in product(*parts)]


def every_list(offers):
    return [row for many in range(offers + 1) for row in permutations(range(offers), many)]


def random_choosers(offers, many, seed):
    """So many choosers that can be asked apart, of many makes; the same ones for the same seed."""
    chance = random.Random(seed)
    found = []
    for _ in range(many):
        rows = [random_list(chance, offers) for _ in range(chance.randint(0, 4))]
        made = by_lists(offers, tuple(rows))
        part = first_some(offers, random_list(chance, offers), chance.randint(0, 3))
        made = chance.choice([lambda: made, lambda: either_of(made, part), lambda: in_turn(part, made)])()
        if chance.random() < 0.2:
            made = leaving_out(made, (chance.randrange(offers),))
        found.append(made)
    return found


def random_list(chance, offers):
    row = list(range(offers))
    chance.shuffle(row)
    return tuple(row[:chance.randint(1, offers)])


def random_trade(chance, offers, longest=3):
    lives = tuple([chance.randint(1, longest) for _ in range(offers)])
    return Trade(lives, tuple([offer for offer in range(offers) if chance.random() < 0.4]))


def random_dated(chance, trade):
    dated = [(offer, chance.randint(0, life)) for offer, life in enumerate(trade.lives)]
    return tuple([(offer, days) for offer, days in dated if days > 0])


def random_stream(chance, trade, many):
    return tuple([chance.choice(deeds_of_trade(trade)) for _ in range(many)])


def deeds_of_trade(trade):
    comings = [("come", offer) for offer in range(len(trade.lives))]
    return comings + [("day",)] + [("gone", offer) for offer in trade.loose]


def streams_in_order(trade, longest):
    """All streams of up to so many deeds, in order."""
    for many in range(longest + 1):
        yield from product(deeds_of_trade(trade), repeat=many)


def every_dated(trade):
    rows = [[(offer, days) for days in range(life + 1)] for offer, life in enumerate(trade.lives)]
    return [tuple([pair for pair in row if pair[1] > 0]) for row in product(*rows)]
