"""[12.1]: chooserfindings.py, sidefindings.py, findings.py."""

import unittest

import naive
from samples import BEST, BOTH, HOUSE, LENDERS, NOT_APART, T, TAKERS, TWO, U, any_values, called, is_same, spoilt
from test_gates import right_stream as right_comings
from test_groups import PAIR
from test_groups import right_paper as right_group
from test_lies import right_paper as right_lies
from test_markets import F, M, right_lists
from test_offices import HANDS, NOW, right_office, right_shares
from test_promises import right_fault, right_promise
from test_relays import ROW, last_marks, right_relay
from test_slips import right_fewest, right_paper, slips_of

from offerstands import errors
from offerstands.chains import chain_holds, judge_chain
from offerstands.chooserfindings import chooser_finding_holds
from offerstands.choosers import Chooser
from offerstands.corners import fewest_hold, judge_fewest
from offerstands.findings import finding_holds
from offerstands.groups import is_group, judge_group
from offerstands.guards import judge_offer, offer_holds
from offerstands.lies import judge_lies
from offerstands.lists import apart_holds, by_lists, judge_apart
from offerstands.markets import Market
from offerstands.means import judge_mean, mean_broken, mean_holds, restless_cells
from offerstands.notebooks import is_notebook, judge_notebook, least_notebook, notebook_holds
from offerstands.oneness import judge_one, one_holds
from offerstands.plans import judge_waiting, waiting_holds
from offerstands.promises import fault_of
from offerstands.questions import is_question
from offerstands.relays import judge_relay
from offerstands.rings import ends_hold, judge_ends
from offerstands.shelves import is_calendar, judge_shelf, shelf_holds
from offerstands.sidefindings import side_finding_holds
from offerstands.sides import is_agreed, judge_settled, settled_holds
from offerstands.skylines import ever_holds, judge_ever, skyline
from offerstands.slips import judge_fewest_marks, judge_office
from offerstands.sure import judge_sure, sure_holds
from offerstands.trades import Trade, is_dated

LEAST = by_lists(2, ((0, 1),))
FOUR = (0, 1, 2, 3)
PICKS = ("picks", BEST)
BEST_TEXT, BOTH_TEXT, T_TEXT, U_TEXT, WRONG = str(BEST), str(BOTH), str(T), str(U), str(NOT_APART)
SIDES = (str(LENDERS), str(TAKERS))
OLDER, NEWER = ((0, 1), (1, 2)), ((1, 2),)


def chooser_findings():
    """Findings of parts 1 to 4 that hold, with papers of the one kind and of the other."""
    for chooser in (BEST, TWO, NOT_APART):
        yield ("apart", str(chooser), judge_apart(chooser))
    yield ("fewest", str(TWO), judge_fewest(TWO))
    for trade in (T, U):
        for dated in (OLDER, ((0, 2), (1, 1)), ()):
            yield ("skyline", BEST_TEXT, str(trade), dated, skyline(BEST, trade, dated))
        yield ("offer", BEST_TEXT, str(trade), OLDER, 0, judge_offer(BEST, trade, OLDER, 0))
        yield ("ever", BEST_TEXT, str(trade), OLDER, NEWER, judge_ever(BEST, trade, OLDER, NEWER))
        for question, told in (
                (PICKS, ("picks", BEST_TEXT)), (("takes", BEST, 1), ("takes", BEST_TEXT, 1)),
                (("picks", NOT_APART), ("picks", WRONG)), (("takes", NOT_APART, 0), ("takes", WRONG, 0)),
                (("settled", BEST, BOTH), ("settled", BEST_TEXT, BOTH_TEXT)),
                (("best", BEST, BOTH), ("best", BEST_TEXT, BOTH_TEXT)),
        ):
            yield ("one", told, str(trade), OLDER, NEWER, judge_one(question, trade, OLDER, NEWER))
            for notebook in (least_notebook(question, trade), least_notebook(("takes", BEST, 0), trade)):
                yield ("notebook", told, str(trade), notebook, judge_notebook(question, trade, notebook))
    for number in (2, 1, -5):
        paper = judge_shelf(BEST, T, ((0,), (1,)), (1, 1), number)
        yield ("shelf", BEST_TEXT, T_TEXT, ((0,), (1,)), (1, 1), number, paper)


def side_findings():
    """Findings of parts 5 to 10 that hold, with papers of the one kind and of the other."""
    for part in ((0, 2), (0,), (0, 1)):
        yield ("settled", *SIDES, FOUR, part, judge_settled(LENDERS, TAKERS, FOUR, part))
    for standing, offer in ((FOUR, 0), ((0, 1), 0), ((0, 1), 1)):
        yield ("choice", *SIDES, standing, offer, judge_sure(LENDERS, TAKERS, standing, offer))
    yield ("chain", *SIDES, FOUR, (0,), judge_chain(LENDERS, TAKERS, FOUR, (0,)))
    yield ("ends", *SIDES, FOUR, (0,), judge_ends(LENDERS, TAKERS, FOUR, (0,)))
    yield ("ends", *SIDES, (0, 1), (), judge_ends(LENDERS, TAKERS, (0, 1), ()))
    for trade in (T, Trade((1, 1), ())):
        top, bottom = mean_broken(BEST, BOTH, trade)
        for fraction in ((top, bottom), (2 * top, 2 * bottom), (top, bottom + 1), (1, 1), (0, 7)):
            paper = judge_mean(BEST, BOTH, trade, fraction)
            yield ("mean", BEST_TEXT, BOTH_TEXT, str(trade), fraction, paper)
        paper = ("restless", restless_cells(BEST, BOTH, trade, (top, bottom)))
        yield ("mean", BEST_TEXT, BOTH_TEXT, str(trade), (top, bottom), paper)
        for number in (0, 1):
            paper = judge_waiting(BEST, BOTH, trade, number)
            yield ("waiting", BEST_TEXT, BOTH_TEXT, str(trade), number, paper)
    for word in ("now", "on"):
        yield ("slips", BEST_TEXT, T_TEXT, HANDS, word, NOW, judge_office(BEST, T, HANDS, word, NOW))
        yield ("marks", BEST_TEXT, T_TEXT, HANDS, word, judge_fewest_marks(BEST, T, HANDS, word))
        yield ("relay", BEST_TEXT, T_TEXT, HANDS, word, ROW, judge_relay(BEST, T, HANDS, word, ROW))
    for market in (M, F, PAIR):
        yield ("lies", str(market.taker), market.shares, market.lists, judge_lies(market))
        for group in ((0,), (0, 1)):
            yield ("group", str(market.taker), market.shares, market.lists, group, judge_group(market, group))


def house_findings():
    """Findings of part 11 that hold."""
    yield ("shown", 2, (BEST_TEXT,), (str(LEAST),), (("come", 0), ("come", 1)))
    yield ("shown", 5, (BOTH_TEXT, BEST_TEXT), (BOTH_TEXT, str(LEAST)), (("come", 1), ("come", 0), ("come", 1)))
    for promise in (("lists", 1), ("shelf", 1), ("notes", 2), ("waits", 0), ("breaks", (1, 9)),
                    ("same settled", (0, 1))):
        edition, before = (BEST, BOTH), (LEAST, BOTH)
        fault = fault_of(T, edition, promise, before)
        yield ("fault", T_TEXT, (BEST_TEXT, BOTH_TEXT), promise, (str(LEAST), BOTH_TEXT), fault)
    for before in ((BEST_TEXT,), (BEST_TEXT, BOTH_TEXT)):
        yield ("fault", T_TEXT, (BEST_TEXT,), ("shelf", 1), before, fault_of(T, (BEST,), ("shelf", 1), ()))


def read(kind, text):
    """What a text tells, None for any value that is no text."""
    try:
        return kind.read(text)
    except errors.BadText:
        return None


def apart(text):
    chooser = read(Chooser, text)
    return chooser if chooser is not None and naive.is_path_independent(chooser) else None


def right_finding(thing):
    """Whether any value is a finding that holds: its parts are looked at one by one, papers by the checkers."""
    sizes = {"apart": 3, "fewest": 3, "skyline": 5, "offer": 6, "ever": 6, "one": 6, "notebook": 5, "shelf": 7,
             "settled": 6, "choice": 6, "chain": 6, "ends": 6, "mean": 6, "waiting": 6, "slips": 7, "marks": 6,
             "relay": 7, "lies": 5, "group": 6, "shown": 5, "fault": 6}
    if type(thing) is not tuple or not thing or type(thing[0]) is not str or sizes.get(thing[0]) != len(thing):
        return False
    word, rest = thing[0], thing[1:]
    if word == "apart":
        return read(Chooser, rest[0]) is not None and apart_holds(read(Chooser, rest[0]), rest[1])
    if word in ("one", "notebook"):
        return right_question_finding(word, *rest)
    if word in ("settled", "choice", "chain", "ends", "mean", "waiting"):
        near, far = apart(rest[0]), apart(rest[1])
        return near is not None and far is not None and near.offers == far.offers and right_side_finding(
            word, near, far, *rest[2:])
    if word == "shown":
        return right_shown(*rest)
    if word == "fault":
        return right_fault_finding(*rest)
    chooser = apart(rest[0])
    if chooser is None:
        return False
    if word == "fewest":
        return fewest_hold(chooser, rest[1])
    if word in ("lies", "group"):
        return right_market_finding(word, chooser, *rest[1:])
    trade = read(Trade, rest[1])
    if trade is None or len(trade.lives) != chooser.offers:
        return False
    return right_dated_finding(word, chooser, trade, *rest[2:])


def right_question_finding(word, told, text, *rest):
    sizes = {"picks": 2, "takes": 3, "settled": 3, "best": 3}
    if type(told) is not tuple or not told or type(told[0]) is not str or sizes.get(told[0]) != len(told):
        return False
    many = 1 if told[0] in ("picks", "takes") else 2
    question = (told[0], *[read(Chooser, part) for part in told[1:1 + many]], *told[1 + many:])
    trade = read(Trade, text)
    if not is_question(question) or trade is None or len(trade.lives) != question[1].offers:
        return False
    if word == "notebook":
        return is_notebook(trade, rest[0]) and notebook_holds(question, trade, *rest)
    return is_dated(trade, rest[0]) and is_dated(trade, rest[1]) and one_holds(question, trade, *rest)


def right_dated_finding(word, chooser, trade, *rest):
    if word == "shelf":
        calendar, worths, number, paper = rest
        if not is_calendar(trade, calendar) or type(worths) is not tuple or len(worths) != chooser.offers:
            return False
        if not all(type(worth) is int and worth >= 0 for worth in worths) or type(number) is not int:
            return False
        return shelf_holds(chooser, trade, calendar, worths, number, paper)
    if word in ("slips", "marks", "relay"):
        shares, moment = rest[:2]
        if not right_shares(chooser.offers, shares) or not (is_same(moment, "now") or is_same(moment, "on")):
            return False
        if word == "marks":
            return right_fewest(chooser, trade, shares, moment, rest[2])
        if word == "slips":
            return right_office(trade, shares, rest[2]) and right_paper(
                chooser, trade, moment, slips_of(trade, shares, rest[2]), rest[3])
        return right_relay(trade, shares, rest[2]) and right_paper(
            chooser, trade, moment, last_marks(trade, shares, rest[2]), rest[3])
    if not is_dated(trade, rest[0]):
        return False
    if word == "skyline":
        return is_same(rest[1], naive.skyline(chooser, trade, rest[0]))
    if word == "offer":
        stands = type(rest[1]) is int and rest[1] in naive.stand_in(rest[0])
        return stands and offer_holds(chooser, trade, *rest)
    return is_dated(trade, rest[1]) and ever_holds(chooser, trade, *rest)


def right_side_finding(word, near, far, *rest):
    if word in ("mean", "waiting"):
        trade = read(Trade, rest[0])
        if trade is None or len(trade.lives) != near.offers:
            return False
        if word == "mean":
            return right_promise(trade, 2, ("breaks", rest[1])) and mean_holds(near, far, trade, *rest[1:])
        return right_promise(trade, 2, ("waits", rest[1])) and waiting_holds(near, far, trade, *rest[1:])
    sets = naive.sets_of(near.offers)
    if not any(is_same(rest[0], some) for some in sets):
        return False
    if word == "choice":
        return type(rest[1]) is int and rest[1] in rest[0] and sure_holds(near, far, *rest)
    if not any(is_same(rest[1], some) for some in sets) or not set(rest[1]) <= set(rest[0]):
        return False
    if word == "settled":
        return settled_holds(near, far, *rest)
    judge = {"chain": chain_holds, "ends": ends_hold}[word]
    return is_agreed(near, far, rest[1]) and judge(near, far, *rest)


def right_market_finding(word, taker, shares, lists, *rest):
    if not right_shares(taker.offers, shares):
        return False
    market = Market(taker, shares, tuple(() for _ in shares))
    if not right_lists(market, lists):
        return False
    market = Market(taker, shares, lists)
    if word == "lies":
        return right_lies(market, rest[0])
    return is_group(market, rest[0]) and right_group(market, *rest)


def edition(texts):
    if type(texts) is not tuple or len(texts) not in (1, 2) or None in [apart(text) for text in texts]:
        return None
    return tuple(apart(text) for text in texts)


def right_shown(room, before, after, stream):
    old, new = edition(before), edition(after)
    if type(room) is not int or room < 1 or old is None or new is None or len(old) != len(new):
        return False
    return len({chooser.offers for chooser in old + new}) == 1 and right_comings(room, old, new, stream)


def right_fault_finding(text, told, promise, before, paper):
    trade, new, old = read(Trade, text), edition(told), edition(before)
    if trade is None or new is None or old is None:
        return False
    if {chooser.offers for chooser in new + old} != {len(trade.lives)}:
        return False
    if not right_promise(trade, len(new), promise) or (promise[0] == "same settled" and len(old) != len(new)):
        return False
    return right_fault(trade, new, promise, old, paper)


def others(finding):
    """The finding with one part otherwise: other texts, words, objects, lists, parts left out, one too many."""
    texts = (str(LEAST), BEST_TEXT, WRONG, str(TWO), T_TEXT, U_TEXT, str(Trade((1,), ())), "chooser 2", "", SIDES[0])
    things = (*texts, BEST, T, HOUSE, None, True, False, 0, 1, -1, (), [], {}, (BEST_TEXT,), (BEST,), "on", "now",
              ("picks", BEST), ("picks", BEST_TEXT), ("settled", BEST_TEXT, WRONG), ("takes", BEST_TEXT, True), (0, 1))
    yield list(finding)
    for at, part in enumerate(finding):
        yield finding[:at] + finding[at + 1:]
        yield finding[:at] + (part,) + finding[at:]
        for thing in things:
            yield finding[:at] + (thing,) + finding[at + 1:]
        if isinstance(part, tuple):
            yield finding[:at] + (list(part),) + finding[at + 1:]
        if isinstance(part, int):
            yield finding[:at] + (bool(part),) + finding[at + 1:]
    for word in ("apart", "fewest", "ever", "settled", "chain", "ends", "mean", "waiting", "slips", "relay", "x", "Apart"):
        yield (word, *finding[1:])


class FindingsTest(unittest.TestCase):
    ALL = ((chooser_findings, chooser_finding_holds), (side_findings, side_finding_holds), (house_findings, None))

    def test_findings_that_hold(self):
        words = {}
        for found, holds in self.ALL:
            for finding in found():
                self.assertTrue(right_finding(finding), finding)
                self.assertIs(called(self, finding_holds, finding), True, finding)
                for judge in (chooser_finding_holds, side_finding_holds):
                    self.assertIs(called(self, judge, finding), judge == holds, finding)
                paper = finding[-1]
                words.setdefault(finding[0], set()).add(paper[0] if paper else None)
        kinds = {word: words[word] for word in words if word not in ("skyline", "shown")}
        for word, told in (
                ("apart", {"lists", "against"}), ("offer", {"guarded", "shown"}), ("ever", {"same", "parted"}),
                ("one", {"one", "unlike"}), ("notebook", {"tells", "fails"}), ("shelf", {"within", "beyond"}),
                ("settled", {"settled", "left", "wished"}), ("choice", {"sure", "open", "vain"}), ("chain", {"chain"}),
                ("ends", {"ring", "ranks"}), ("mean", {"calm", "restless"}), ("waiting", {"plan", "barred"}),
                ("slips", {"tells", "fails"}), ("relay", {"tells", "fails"}), ("lies", {"gains", "true"}),
                ("group", {"gain", "none"}), ("fewest", {"fewest"}), ("marks", {"fewest"}),
                ("fault", {"lists", "beyond", "notes", "barred", "breaks", "unlike"})):
            self.assertEqual(kinds.pop(word), told)
        self.assertEqual(kinds, {})

    def test_one_part_otherwise(self):
        told = {True: 0, False: 0}
        for found, holds in self.ALL:
            for finding in found():
                for thing in others(finding):
                    right = right_finding(thing)
                    self.assertIs(finding_holds(thing), right, thing)
                    if holds is not None and (type(thing) is not tuple or thing[:1] == finding[:1]):
                        self.assertIs(holds(thing), right, thing)
                    told[right] += 1
        self.assertGreater(told[True], 30)

    def test_papers_and_parts_spoilt(self):
        told = {True: 0, False: 0}
        for found, _ in self.ALL:
            met = {}
            for finding in found():
                # Great papers are spoilt elsewhere: here each kind of finding with each kind of paper.
                key = (finding[0], finding[-1][:1])
                if key in met or len(repr(finding)) > 700:
                    continue
                met[key] = True
                for thing in spoilt(finding):
                    right = right_finding(thing)
                    self.assertIs(finding_holds(thing), right, thing)
                    told[right] += 1
            self.assertGreater(len(met), 5)
        self.assertGreater(told[True], 10)

    def test_papers_of_the_other_kind(self):
        """A paper of one finding is no paper of what says the opposite."""
        for found, _ in self.ALL:
            rows = list(found())
            for one in rows:
                for other in rows:
                    if one[0] == other[0] and len(one) == len(other):
                        thing = (*one[:-1], other[-1])
                        self.assertIs(finding_holds(thing), right_finding(thing), thing)

    def test_each_function_of_its_parts_alone(self):
        for found, holds in self.ALL:
            for finding in found():
                for judge in (chooser_finding_holds, side_finding_holds):
                    if judge != holds:
                        self.assertIs(judge(finding), False)

    def test_any_value(self):
        for thing in any_values() + [("apart",), ("apart", BEST, ("lists", ((1, 0),))), (), ("shown",), (["apart"],),
                                     ({}, 1, 2), ((), (), ()), (HOUSE, HOUSE, HOUSE)]:
            right = right_finding(thing)
            self.assertIs(finding_holds(thing), right, thing)
            self.assertIs(chooser_finding_holds(thing), right and thing[0] == "apart", thing)
            self.assertIs(side_finding_holds(thing), False, thing)
            self.assertIs(finding_holds(thing=thing), right)

    def test_any_value_in_each_place(self):
        values = any_values()
        for at, (found, _) in enumerate(self.ALL):
            rows = {finding[0]: finding for finding in found()}
            for finding in rows.values():
                for place in range(1, len(finding)):
                    for value in values[(at + place) % 3::3]:
                        thing = finding[:place] + (value,) + finding[place + 1:]
                        self.assertIs(finding_holds(thing), right_finding(thing), thing)

    def test_what_cannot_be_asked_apart(self):
        self.assertIs(finding_holds(("apart", WRONG, judge_apart(NOT_APART))), True)
        bare = ("fewest", (), ())
        self.assertIs(finding_holds(("fewest", WRONG, bare)), False)
        self.assertIs(finding_holds(("skyline", WRONG, T_TEXT, (), ())), False)
        self.assertIs(finding_holds(("skyline", BEST_TEXT, T_TEXT, (), ())), True)
        self.assertIs(finding_holds(("settled", WRONG, WRONG, (), (), ("settled",))), False)
        self.assertIs(finding_holds(("settled", BEST_TEXT, BEST_TEXT, (), (), ("settled",))), True)
        self.assertIs(finding_holds(("lies", WRONG, ((0, 1),), ((),), ("true", ((),)))), False)
        self.assertIs(finding_holds(("lies", BEST_TEXT, ((0, 1),), ((),), ("true", ((),)))), True)
        self.assertIs(finding_holds(("shown", 2, (BEST_TEXT,), (WRONG,), (("come", 0), ("come", 1)))), False)

    def test_rooms(self):
        none, before, coming = str(by_lists(2, ())), (BEST_TEXT,), (("come", 0),)
        for room, right in ((1, True), (2, True), (10 ** 12, True), (0, False), (-1, False), (True, False)):
            self.assertIs(finding_holds(("shown", room, before, (none,), coming)), right, room)
        self.assertIs(finding_holds(("shown", 1, before, (str(LEAST),), (("come", 0), ("come", 1)))), False)

    def test_all_of_one_finding_have_equally_many_offers(self):
        """Also an edition that is not looked at; the texts of it can be any others of as many offers."""
        fault, two = fault_of(T, (BEST,), ("shelf", 1), ()), str(TWO)
        for before, right in (((BOTH_TEXT,), True), ((BOTH_TEXT, str(LEAST)), True), ((two,), False),
                              ((BEST_TEXT, two), False), ((WRONG,), False), ((), False), ((BEST_TEXT,) * 3, False)):
            self.assertIs(finding_holds(("fault", T_TEXT, (BEST_TEXT,), ("shelf", 1), before, fault)), right, before)
        for before, after in (((BEST_TEXT,), (two,)), ((two, BEST_TEXT), (two, str(LEAST)))):
            self.assertIs(finding_holds(("shown", 3, before, after, (("come", 0), ("come", 1)))), False)

    def test_mean_and_waiting_of_numbers_that_are_none(self):
        for fraction in ((-1, 1), (0, 0), (1, -1), (1,), (1, 1, 1), [1, 1], (True, 1), 1, None):
            for paper in (judge_mean(BEST, BOTH, T, (1, 1)), ("restless", restless_cells(BEST, BOTH, T, (0, 1)))):
                self.assertIs(finding_holds(("mean", BEST_TEXT, BOTH_TEXT, T_TEXT, fraction, paper)), False)
        for number in (-1, True, "1", None, (1,)):
            paper = judge_waiting(BEST, BOTH, T, 1)
            self.assertIs(finding_holds(("waiting", BEST_TEXT, BOTH_TEXT, T_TEXT, number, paper)), False)
        paper = judge_waiting(BEST, BOTH, T, 0)
        self.assertIs(finding_holds(("waiting", BEST_TEXT, BOTH_TEXT, T_TEXT, False, paper)), False)
        self.assertIs(finding_holds(("waiting", BEST_TEXT, BOTH_TEXT, T_TEXT, -1, paper)), False)


if __name__ == "__main__":
    unittest.main()
