"""[11.3]: promises.py."""

import random
import unittest
from fractions import Fraction

import naive
from samples import (
    BEST, BOTH, NONE, T, TWO, U, any_values, called, every_dated, is_same, random_choosers, random_stream,
    random_trade, refused, spoilt,
)
from test_means import GREAT, right_restless
from test_plans import BEGINNING, plan_slowly, right_barred
from test_trades import right_stream

from offerstands.corners import fewest_hold, judge_fewest
from offerstands.errors import OtherOffers
from offerstands.lists import by_lists
from offerstands.means import judge_mean, mean_broken, mean_holds, restless_cells
from offerstands.plans import judge_waiting, least_waiting, waiting_holds
from offerstands.promises import fault_holds, fault_of, is_promise
from offerstands.shelves import judge_shelf, shelf_holds
from offerstands.sides import settled_sets
from offerstands.streams import bringing
from offerstands.trades import Trade

RATHER_0 = by_lists(2, ((0, 1),))


def right_promise(trade, many, thing):
    if type(thing) is not tuple or len(thing) != 2 or type(thing[0]) is not str:
        return False
    word, told = thing
    if word in ("lists", "shelf", "notes") or (word == "waits" and many == 2):
        return type(told) is int and told >= 0
    if word == "breaks" and many == 2:
        return (type(told) is tuple and len(told) == 2 and all(type(part) is int for part in told)
                and told[0] >= 0 and told[1] >= 1)
    return word == "same settled" and many == 2 and any(is_same(told, some) for some in naive.sets_of(len(trade.lives)))


def skylines(chooser, trade):
    return {naive.skyline(chooser, trade, dated) for dated in every_dated(trade)}


def is_kept(trade, choosers, promise, before):
    word, told = promise
    if word == "lists":
        return max(naive.many_lists(chooser) for chooser in choosers) <= told
    if word == "shelf":
        return max(len(row) for row in skylines(choosers[0], trade)) <= told
    if word == "notes":
        return len(skylines(choosers[0], trade)) <= told
    if word == "waits":
        return BEGINNING in plan_slowly(*choosers, trade, told)
    if word == "breaks":
        return Fraction(*mean_broken(*choosers, trade)) <= Fraction(*told)
    return naive.settled_sets(*choosers, told) == naive.settled_sets(*before, told)


def right_fault(trade, choosers, promise, before, thing):
    (word, told), size = promise, {"lists": 3, "breaks": 3}.get(promise[0], 2)
    head = {"shelf": "beyond", "waits": "barred", "same settled": "unlike"}.get(word, word)
    if type(thing) is not tuple or len(thing) != size or not is_same(thing[0], head):
        return False
    if word == "lists":
        if type(thing[1]) is not int or not 0 <= thing[1] < len(choosers):
            return False
        return fewest_hold(choosers[thing[1]], thing[2]) and len(thing[2][1]) > told
    if word == "shelf":
        return right_stream(trade, thing[1]) and len(
            naive.skyline(choosers[0], trade, naive.stands(trade, thing[1]))) > told
    if word == "notes":
        return right_notes(trade, choosers[0], told, thing[1])
    if word == "waits":
        return right_barred(*choosers, trade, told, thing[1])
    if word == "breaks":
        return right_breaks(trade, choosers, told, thing)
    there = [some for some in naive.sets_of(len(trade.lives)) if is_same(some, thing[1])]
    return bool(there) and (there[0] in naive.settled_sets(*choosers, told)) != (
        there[0] in naive.settled_sets(*before, told))


def right_notes(trade, chooser, bound, thing):
    if type(thing) is not tuple or len(thing) != bound + 1 or not all(right_stream(trade, row) for row in thing):
        return False
    if any((len(one), one) >= (len(other), other) for one, other in zip(thing, thing[1:])):
        return False
    return len({naive.skyline(chooser, trade, naive.stands(trade, row)) for row in thing}) == len(thing)


def right_breaks(trade, choosers, fraction, thing):
    greater, paper = thing[1:]
    if not right_promise(trade, 2, ("breaks", greater)) or Fraction(*greater) <= Fraction(*fraction):
        return False
    if type(paper) is not tuple or len(paper) != 2 or not is_same(paper[0], "restless"):
        return False
    return right_restless(*choosers, trade, greater, paper[1])


def cases(seed, many=14):
    """Editions of one chooser and of two, with another edition of as many, and a trade."""
    chance = random.Random(seed)
    found = [(T, (BEST,), (RATHER_0,)), (U, (BEST, BOTH), (RATHER_0, BOTH)), (T, (BEST, BOTH), (BOTH, BEST)),
             (T, (NONE, NONE), (BOTH, NONE)), (U, (NONE,), (NONE,))]
    for _ in range(many):
        offers = chance.choice((1, 2, 2, 3))
        size = chance.choice((1, 2, 2))
        rows = random_choosers(offers, 2 * size, chance.randrange(10 ** 6))
        found.append((random_trade(chance, offers, 2), tuple(rows[:size]), tuple(rows[size:])))
    return found


def promises_for(trade, choosers):
    """Promises of each kind, some that are kept just so, some that are broken by one."""
    found = [("lists", k) for k in range(5)] + [("shelf", k) for k in range(4)]
    notes = len(skylines(choosers[0], trade))
    found += [("notes", k) for k in sorted({0, 1, notes - 2, notes - 1, notes, notes + 1, GREAT}) if k >= 0]
    found += [("lists", GREAT), ("shelf", GREAT)]
    if len(choosers) == 2:
        mean = Fraction(*mean_broken(*choosers, trade))
        found += [("waits", k) for k in (0, 1, 2, 3, GREAT)]
        near = [mean, mean + Fraction(1, 900), mean - Fraction(1, 900), mean * 2, mean / 2]
        found += [("breaks", (times * row.numerator, times * row.denominator))
                  for row in near if row >= 0 for times in (1, 3)]
        found += [("same settled", some) for some in naive.sets_of(len(trade.lives))]
    return found


class PromisesTest(unittest.TestCase):
    def test_worked_examples(self):
        self.assertEqual(called(self, fault_of, T, (BEST,), ("shelf", 1), ()),
                         ("beyond", (("come", 1), ("day",), ("come", 0))))
        self.assertIs(called(self, fault_of, T, (BEST,), ("shelf", 2), None), None)
        self.assertEqual(called(self, fault_of, T, (BEST,), ("notes", 5), ())[0], "notes")
        self.assertIs(called(self, fault_of, T, (BEST,), ("notes", 6), ()), None)
        self.assertIs(called(self, fault_of, T, (BEST,), ("lists", 1), ()), None)
        self.assertEqual(called(self, fault_of, T, (BEST,), ("lists", 0), ())[:2], ("lists", 0))
        self.assertIs(called(self, is_promise, T, 1, ("waits", 1)), False)
        self.assertIs(called(self, is_promise, T, 2, ("waits", 1)), True)

    def test_is_promise(self):
        right = [("lists", 0), ("shelf", 3), ("notes", 40), ("waits", 2), ("breaks", (0, 1)), ("breaks", (6, 4)),
                 ("same settled", ()), ("same settled", (0, 1)), ("lists", GREAT), ("breaks", (GREAT, GREAT))]
        made = [worse for promise in right for worse in spoilt(promise)]
        made += [("breaks", (1, 0)), ("breaks", (-1, 2)), ("breaks", (1, 2, 3)), ("same settled", (2,)),
                 ("same settled", (1, 0)), ("settled", (0,)), ("lists", -1), ("lists",), ("lists", 1, 1), (0, 1)]
        for trade in (T, Trade((1,), ())):
            for many in (1, 2):
                for thing in right + made + any_values():
                    self.assertIs(is_promise(trade, many, thing), right_promise(trade, many, thing), thing)
        for promise in right:
            self.assertIs(is_promise(T, 2, promise), True)

    def test_each_kind_as_the_document_says(self):
        met = {}
        for trade, choosers, before in cases(711):
            for promise in promises_for(trade, choosers):
                fault = fault_of(trade, choosers, promise, before)
                kept = is_kept(trade, choosers, promise, before)
                self.assertIs(fault is None, kept, (promise, fault))
                if not kept:
                    self.assertTrue(right_fault(trade, choosers, promise, before, fault), (promise, fault))
                    self.assertIs(fault_holds(trade, choosers, promise, before, fault), True)
                met[promise[0], kept] = True
        self.assertEqual(len(met), 12, met)

    def test_of_lists_the_first_chooser_of_breaks_the_mean_of_settled_the_first_set(self):
        for trade, choosers, before in cases(712, 20):
            for promise in promises_for(trade, choosers):
                fault = fault_of(trade, choosers, promise, before)
                if fault is None:
                    continue
                if promise[0] == "lists":
                    many = [naive.many_lists(chooser) > promise[1] for chooser in choosers]
                    self.assertEqual(fault[1], many.index(True))
                if promise[0] == "breaks":
                    self.assertTrue(is_same(fault[1], mean_broken(*choosers, trade)))
                if promise[0] == "same settled":
                    one = naive.settled_sets(*choosers, promise[1])
                    other = naive.settled_sets(*before, promise[1])
                    rows = sorted(set(one) ^ set(other), key=lambda row: (len(row), row))
                    self.assertEqual(fault, ("unlike", rows[0]))

    def test_lists_of_the_second_chooser_alone(self):
        fault = called(self, fault_of, T, (BEST, BOTH), ("lists", 1), ())
        self.assertEqual(fault[:2], ("lists", 1))
        self.assertIs(called(self, fault_holds, T, (BEST, BOTH), ("lists", 1), (), fault), True)
        self.assertIs(fault_holds(T, (BOTH, BEST), ("lists", 1), (), fault), False)
        self.assertIs(fault_holds(T, (BEST, BOTH), ("lists", 1), (), ("lists", 0, judge_fewest(BEST))), False)
        self.assertIs(fault_holds(T, (BEST, BOTH), ("lists", 0), (), ("lists", 0, judge_fewest(BEST))), True)

    def test_shelf_and_notes_of_the_first_chooser_alone(self):
        for promise in (("shelf", 0), ("notes", 1)):
            self.assertIs(fault_of(T, (NONE, BOTH), promise, ()), None)
            self.assertIsNotNone(fault_of(T, (BOTH, NONE), promise, ()))

    def test_before_is_looked_at_for_same_settled_alone(self):
        for promise in promises_for(U, (BEST, BOTH)):
            if promise[0] != "same settled":
                for before in ((), None, (BEST,), (TWO, TWO), "none"):
                    told = fault_of(U, (BEST, BOTH), promise, before)
                    self.assertEqual(told, fault_of(U, (BEST, BOTH), promise, (BEST, BOTH)))
                    self.assertIs(fault_holds(U, (BEST, BOTH), promise, before, told), told is not None)

    def test_calls_by_name(self):
        for trade, choosers, before in cases(713, 4):
            for promise in promises_for(trade, choosers)[::5]:
                fault = called(self, fault_of, trade, choosers, promise, before)
                called(self, fault_holds, trade, choosers, promise, before, fault)


class FaultsTest(unittest.TestCase):
    def test_faults_of_other_hands(self):
        chance = random.Random(714)
        tried = {True: 0, False: 0}
        for trade, choosers, before in cases(715, 16):
            for promise in promises_for(trade, choosers):
                for fault in self.others(chance, trade, choosers, promise):
                    told = right_fault(trade, choosers, promise, before, fault)
                    self.assertIs(fault_holds(trade, choosers, promise, before, fault), told, (promise, fault))
                    tried[told] += 1
        self.assertGreater(min(tried.values()), 300)

    def others(self, chance, trade, choosers, promise):
        word, told = promise
        if word == "lists":
            for number, chooser in enumerate(choosers):
                yield ("lists", number, judge_fewest(chooser))
                yield ("lists", 1 - number, judge_fewest(chooser))
        elif word == "shelf":
            for _ in range(4):
                yield ("beyond", random_stream(chance, trade, chance.randint(0, 9)))
        elif word == "notes" and told < 40:
            streams = [bringing(trade, chance.choice(every_dated(trade))) for _ in range(told + 1)]
            yield ("notes", tuple(sorted(streams, key=lambda row: (len(row), row))))
            rows = sorted(skylines(choosers[0], trade))[:told + 1]
            longer = [bringing(trade, row) for row in rows]
            longer = [(("day",),) * chance.choice((0, 0, 2)) + stream for stream in longer]
            yield ("notes", tuple(sorted(longer, key=lambda row: (len(row), row))))
            yield ("notes", tuple(longer))
        elif word == "waits" and told < 40:
            for number in (told, told + 1, max(0, told - 1)):
                yield judge_waiting(*choosers, trade, number)
        elif word == "breaks":
            top, bottom = mean_broken(*choosers, trade)
            for greater in ((top, bottom), (3 * top, 3 * bottom), (2 * top, 2 * bottom + 1), told):
                yield ("breaks", greater, ("restless", restless_cells(*choosers, trade, greater) or ()))
        elif word == "same settled":
            for some in naive.sets_of(len(trade.lives)):
                yield ("unlike", some)

    def test_spoilt_faults_and_any_value(self):
        before = (RATHER_0, BOTH)
        for trade in (T, U):
            for promise in (("lists", 0), ("shelf", 1), ("shelf", 0), ("notes", 2), ("notes", 0), ("waits", 0),
                            ("breaks", (0, 7)), ("same settled", (0, 1)), ("same settled", ())):
                fault = fault_of(trade, (BEST, BOTH), promise, before)
                things = [fault, *spoilt(fault), *any_values()]
                if promise == ("waits", 0):
                    things = [fault, *list(spoilt(fault))[::5], *any_values()]
                for thing in things:
                    told = right_fault(trade, (BEST, BOTH), promise, before, thing)
                    self.assertIs(fault_holds(trade, (BEST, BOTH), promise, before, thing), told, (promise, thing))

    def test_not_settled_by_either_and_not_among_those(self):
        one, other = (BEST, BOTH), (RATHER_0, BOTH)
        self.assertEqual(settled_sets(*one, (0, 1)), ((1,),))
        for some, told in (((0,), True), ((1,), True), ((), False), ((0, 1), False)):
            self.assertIs(fault_holds(T, one, ("same settled", (0, 1)), other, ("unlike", some)), told)
            self.assertIs(fault_holds(T, one, ("same settled", (0,)), other, ("unlike", some)), False)

    def test_no_fault_of_what_is_kept(self):
        self.assertIs(fault_holds(T, (BEST,), ("shelf", 2), (), ("beyond", (("come", 1), ("day",), ("come", 0)))), False)
        self.assertIs(fault_holds(T, (BEST,), ("notes", 6), (), fault_of(T, (BEST,), ("notes", 5), ())), False)
        self.assertIs(fault_holds(T, (BEST,), ("notes", 4), (), fault_of(T, (BEST,), ("notes", 5), ())), False)


    def test_right_papers_of_the_other_kind_are_no_faults(self):
        """Papers that a promise is kept, each right for what it says."""
        edition = (BEST, BOTH)
        for trade in (T, U):
            calendar, worths = ((0, 1),), (1, 1)
            most, least = max(len(row) for row in skylines(BEST, trade)), least_waiting(*edition, trade)
            mean = mean_broken(*edition, trade)
            within = judge_shelf(BEST, trade, calendar, worths, most)
            plan = judge_waiting(*edition, trade, least)
            self.assertEqual((within[0], plan[0]), ("within", "plan"))
            self.assertIs(shelf_holds(BEST, trade, calendar, worths, most, within), True)
            self.assertIs(waiting_holds(*edition, trade, least, plan), True)
            self.assertIs(fault_holds(trade, edition, ("shelf", most), edition, within), False)
            self.assertIs(fault_holds(trade, edition, ("waits", least), edition, plan), False)
            for fraction, greater in ((mean, (mean[0] + 1, mean[1])), ((0, 1), mean), ((0, 1), (1, 1))):
                calm = judge_mean(*edition, trade, greater)
                self.assertEqual(calm[0], "calm")
                self.assertIs(mean_holds(*edition, trade, greater, calm), True)
                fault = ("breaks", greater, calm)
                self.assertIs(fault_holds(trade, edition, ("breaks", fraction), edition, fault), False)


class ErrorsTest(unittest.TestCase):
    def test_other_offers(self):
        for trade, choosers in ((Trade((1,), ()), (BEST,)), (T, (TWO,)), (T, (BEST, TWO)), (T, (TWO, BEST))):
            for promise in (("lists", 0), ("shelf", 0), ("notes", 0)):
                refused(self, OtherOffers, {}, fault_of, trade, choosers, promise, choosers)
                refused(self, OtherOffers, {}, fault_holds, trade, choosers, promise, choosers, None)
        for before in ((TWO, BEST), (BEST, TWO), (TWO, TWO)):
            refused(self, OtherOffers, {}, fault_of, T, (BEST, BOTH), ("same settled", ()), before)
            refused(self, OtherOffers, {}, fault_holds, T, (BEST, BOTH), ("same settled", ()), before, None)
            refused(self, OtherOffers, {}, fault_of, trade=T, choosers=(BEST, BOTH), promise=("same settled", ()),
                    before=before)


if __name__ == "__main__":
    unittest.main()
