"""[4.1] to [4.4]: shelves.py."""

import random
import unittest
from itertools import product

import naive
from samples import (
    BEST, BOTH, EVERY, NONE, T, TWO, U, any_values, called, deeds_of_trade, is_same, random_choosers, random_stream,
    random_trade, refused, spoilt, streams_in_order,
)
from test_oneness import MANY
from test_trades import right_dated, right_stream

from offerstands.errors import BadCalendar, BadDated, BadStream, BadWorths, OtherOffers, TooMany
from offerstands.shelves import (
    does_keep, fewest_days, first_greatest, is_calendar, judge_shelf, shelf, shelf_holds, spots, turns,
)
from offerstands.skylines import skylines
from offerstands.trades import Trade

EACH, TURN = ((0, 1),), ((0,), (1,))
DAY = ("day",)


def right_calendar(trade, thing):
    if type(thing) is not tuple or not thing:
        return False
    sets = naive.sets_of(len(trade.lives))
    return all(any(is_same(item, some) for some in sets) for item in thing)


def right_worths(trade, thing):
    return (
        type(thing) is tuple and len(thing) == len(trade.lives)
        and all(type(item) is int and item >= 0 for item in thing)
    )


def keeps(calendar, stream):
    days = 0
    for deed in stream:
        if deed[0] == "come" and deed[1] not in calendar[days % len(calendar)]:
            return False
        days += deed == DAY
    return True


def worth(worths, line):
    return sum(worths[x] for x, _ in line)


def line_behind(chooser, trade, stream):
    return naive.skyline(chooser, trade, naive.stands(trade, stream))


def first_streams(chooser, trade, calendar):
    """For each spot the first stream to it; what stands, not the skylines, is led on, level by level."""
    found, rows, met = {}, [(0, (), ())], {(0, ())}
    while rows:
        further = []
        for index, stood, stream in rows:
            found.setdefault((index, naive.skyline(chooser, trade, stood)), stream)
        for index, stood, stream in rows:
            for deed in sorted(deeds_of_trade(trade)):
                if deed[0] != "come" or deed[1] in calendar[index]:
                    state = ((index + (deed == DAY)) % len(calendar), naive.after(trade, stood, deed))
                    if state not in met:
                        met.add(state)
                        further.append((*state, (*stream, deed)))
        rows = further
    return found


def cases(seed, many=30):
    chance = random.Random(seed)
    for _ in range(many):
        offers = chance.choice((1, 2, 2, 3, 3, 4))
        chooser = random_choosers(offers, 1, chance.randrange(10 ** 6))[0]
        trade = random_trade(chance, offers, 3 if offers < 4 else 2)
        sets = naive.sets_of(offers)
        calendar = tuple(chance.choice([sets[-1], *sets]) for _ in range(chance.randint(1, 4)))
        yield chooser, trade, calendar, tuple(chance.choice((0, 1, 2, 5, 99)) for _ in range(offers))
    for calendar in (EACH, TURN, ((),), ((), (0, 1), (), (1,))):
        for chooser in (BEST, BOTH, NONE):
            for trade in (T, U):
                yield chooser, trade, calendar, (1, 3)


def right_lots(chooser, trade, calendar, worths, number, thing):
    if type(thing) is not tuple or len(thing) != len(calendar):
        return False
    for lot in thing:
        if type(lot) is not tuple or not all(right_dated(trade, line) for line in lot):
            return False
        if list(lot) != sorted(set(lot)) or any(naive.skyline(chooser, trade, line) != line for line in lot):
            return False
        if any(worth(worths, line) > number for line in lot):
            return False
    if () not in thing[0]:
        return False
    for index, lot in enumerate(thing):
        for line in lot:
            for deed in deeds_of_trade(trade):
                found = naive.skyline(chooser, trade, naive.after(trade, line, deed))
                later = thing[(index + 1) % len(thing)] if deed == DAY else lot
                if (deed[0] != "come" or deed[1] in calendar[index]) and found not in later:
                    return False
    return True


def right_paper(chooser, trade, calendar, worths, number, thing):
    if type(thing) is not tuple or len(thing) != 2 or type(thing[0]) is not str:
        return False
    if thing[0] == "within":
        return right_lots(chooser, trade, calendar, worths, number, thing[1])
    if thing[0] == "beyond" and right_stream(trade, thing[1]):
        return keeps(calendar, thing[1]) and worth(worths, line_behind(chooser, trade, thing[1])) > number
    return False


class CalendarTest(unittest.TestCase):
    def test_is_calendar(self):
        for trade in (T, U, Trade((1, 2, 3), ())):
            for thing in any_values() + list(spoilt(TURN)) + [EACH, TURN, ((),), ((), ()), ((0, 1, 2),), ((2,), ())]:
                self.assertIs(called(self, is_calendar, trade, thing), right_calendar(trade, thing), thing)

    def test_does_keep(self):
        chance = random.Random(301)
        met = {True: 0, False: 0}
        for _, trade, calendar, _ in cases(302):
            for _ in range(6):
                stream = random_stream(chance, trade, chance.randint(0, 12))
                told = called(self, does_keep, trade, calendar, stream)
                self.assertIs(told, keeps(calendar, stream))
                met[told] += 1
        self.assertGreater(min(met.values()), 30)
        self.assertIs(does_keep(T, TURN, (("come", 0), ("come", 0), DAY, ("come", 1), DAY, ("come", 0))), True)
        self.assertIs(does_keep(T, TURN, (("come", 0), DAY, ("come", 0))), False)
        self.assertIs(does_keep(U, ((), (0,)), (("gone", 1), DAY, ("come", 0), ("gone", 1), DAY, DAY)), True)
        self.assertIs(does_keep(T, ((),), (DAY,) * 40), True)


class SpotsTest(unittest.TestCase):
    def test_as_the_document_says(self):
        for chooser, trade, calendar, _ in cases(303):
            told = tuple(sorted(first_streams(chooser, trade, calendar)))
            self.assertEqual(called(self, spots, chooser, trade, calendar, most=2000), told)
            many = len(told)
            self.assertEqual(spots(chooser, trade, calendar, most=many), told)
            refused(self, TooMany, {"most": many - 1}, spots, chooser, trade, calendar, most=many - 1)

    def test_small_ones(self):
        self.assertEqual(spots(BEST, T, ((),)), ((0, ()),))
        self.assertEqual(spots(BEST, T, ((), ())), ((0, ()), (1, ())))
        self.assertEqual(spots(BEST, Trade((1, 1), ()), ((1,),)), ((0, ()), (0, ((1, 1),))))
        self.assertEqual(spots(NONE, T, TURN), ((0, ()), (1, ())))
        self.assertEqual(spots(BEST, Trade((1, 1), ()), TURN), ((0, ()), (0, ((0, 1),)), (1, ()), (1, ((1, 1),))))

    def test_four_hundred(self):
        trade = Trade((9, 9, 3), ())
        self.assertEqual(len(spots(EVERY, trade, ((0, 1, 2),))), 400)
        great = Trade((9, 9, 4), ())
        for named in ({}, {"most": 400}):
            refused(self, TooMany, {"most": 400}, spots, EVERY, great, ((0, 1, 2),), **named)
            refused(self, TooMany, {"most": 400}, shelf, EVERY, great, ((0, 1, 2),), (1, 1, 1), **named)
            refused(self, TooMany, {"most": 400}, first_greatest, EVERY, great, ((0, 1, 2),), (1, 1, 1), **named)
            refused(self, TooMany, {"most": 400}, judge_shelf, EVERY, great, ((0, 1, 2),), (1, 1, 1), -1, **named)
            refused(self, TooMany, {"most": 400}, fewest_days, EVERY, great, ((0, 1, 2),), (), **named)
        every = naive.every_of(4)
        self.assertEqual(len(spots(every, Trade((3, 3, 3, 3), (0, 1, 2, 3)), ((0, 1, 2, 3),) * 4, most=1024)), 1024)


class ShelfTest(unittest.TestCase):
    def test_worked_examples(self):
        self.assertEqual(called(self, shelf, BEST, T, EACH, (1, 1)), 2)
        self.assertEqual(called(self, first_greatest, BEST, T, EACH, (1, 1)), (("come", 1), DAY, ("come", 0)))
        self.assertEqual(shelf(BEST, T, TURN, (1, 1)), 2)
        self.assertEqual(first_greatest(BEST, T, TURN, (1, 1)), (DAY, ("come", 1), DAY, ("come", 0)))
        paper = ("within", (((), ((1, 1),), ((1, 2),)),))
        self.assertEqual(called(self, judge_shelf, BEST, T, ((1,),), (1, 1), 1), paper)
        self.assertIs(called(self, shelf_holds, BEST, T, ((1,),), (1, 1), 1, paper), True)

    def test_as_the_document_says(self):
        for chooser, trade, calendar, worths in cases(304):
            streams = first_streams(chooser, trade, calendar)
            told = max(worth(worths, line) for _, line in streams)
            self.assertEqual(called(self, shelf, chooser, trade, calendar, worths, most=len(streams)), told)
            first = min(
                (stream for (_, line), stream in streams.items() if worth(worths, line) == told),
                key=lambda row: (len(row), row),
            )
            found = called(self, first_greatest, chooser, trade, calendar, worths, most=len(streams))
            self.assertEqual(found, first)
            self.assertTrue(keeps(calendar, found))
            for function in (shelf, first_greatest):
                few = len(streams) - 1
                refused(self, TooMany, {"most": few}, function, chooser, trade, calendar, worths, most=few)

    def test_streams_are_first_of_all(self):
        for chooser, trade, calendar, worths in cases(305, 12):
            greatest = shelf(chooser, trade, calendar, worths, most=2000)
            stream = first_greatest(chooser, trade, calendar, worths, most=2000)
            if len(stream) < 5:
                told = next(
                    row for row in streams_in_order(trade, 4)
                    if keeps(calendar, row) and worth(worths, line_behind(chooser, trade, row)) == greatest
                )
                self.assertEqual(stream, told)

    def test_all_offers_on_each_day(self):
        chance = random.Random(306)
        for chooser in random_choosers(3, 6, 307) + random_choosers(4, 3, 308) + [BEST, BOTH, NONE, TWO]:
            trade = random_trade(chance, chooser.offers, 2)
            worths = tuple(chance.randint(0, 9) for _ in range(chooser.offers))
            told = max(worth(worths, line) for line in skylines(chooser, trade))
            for days in (1, 2, 3, 4):
                calendar = (tuple(range(chooser.offers)),) * days
                self.assertEqual(shelf(chooser, trade, calendar, worths, most=1024), told)

    def test_judge_shelf(self):
        met = {}
        for chooser, trade, calendar, worths in cases(309):
            streams = first_streams(chooser, trade, calendar)
            most = len(streams)
            greatest = max(worth(worths, line) for _, line in streams)
            for number in (-5, -1, 0, 1, greatest - 1, greatest, greatest + 1, 10 ** 39):
                paper = judge_shelf(chooser, trade, calendar, worths, number, most=most)
                if number < greatest:
                    rows = [row for (_, line), row in streams.items() if worth(worths, line) > number]
                    self.assertEqual(paper, ("beyond", min(rows, key=lambda row: (len(row), row))))
                else:
                    self.assertEqual(paper[0], "within")
                self.assertTrue(right_paper(chooser, trade, calendar, worths, number, paper))
                self.assertIs(shelf_holds(chooser, trade, calendar, worths, number, paper), True)
                refused(
                    self, TooMany, {"most": most - 1}, judge_shelf, chooser, trade, calendar, worths, number,
                    most=most - 1,
                )
                met[paper[0], number < 0] = True
        self.assertEqual(len(met), 3)
        self.assertEqual(called(self, judge_shelf, BEST, T, EACH, (1, 1), -1), ("beyond", ()))
        self.assertIs(called(self, shelf_holds, BEST, T, EACH, (1, 1), -1, ("beyond", ())), True)
        self.assertIs(called(self, shelf_holds, BEST, T, EACH, (1, 1), 0, ("beyond", ())), False)


class ShelfPapersTest(unittest.TestCase):
    def test_lots_with_more_than_comes(self):
        calendar, worths = ((1,), ()), (1, 1)
        needed = judge_shelf(BEST, T, calendar, worths, 1)[1]
        self.assertEqual(needed, (((), ((1, 2),)), ((), ((1, 1),))))
        more = (((), ((1, 1),), ((1, 2),)), ((), ((1, 1),)))
        self.assertIs(called(self, shelf_holds, BEST, T, calendar, worths, 1, ("within", more)), True)
        # 0 never comes; if it stood, 1 would come and keep it from being taken.
        more = (((), ((0, 2),), ((1, 1),), ((1, 2),)), ((), ((0, 1),), ((1, 1),)))
        self.assertIs(shelf_holds(BEST, T, calendar, worths, 1, ("within", more)), True)
        chance = random.Random(310)
        for chooser, trade, calendar, worths in list(cases(311))[::2]:
            lines = skylines(chooser, trade)
            number = max(worth(worths, line) for line in lines)
            every = (tuple(sorted(lines)),) * len(calendar)
            self.assertIs(called(self, shelf_holds, chooser, trade, calendar, worths, number, ("within", every)), True)
            least = judge_shelf(chooser, trade, calendar, worths, number, most=2000)[1]
            for _ in range(6):
                lots = [
                    tuple(line for line in lot if line in few or chance.random() < 0.8)
                    for lot, few in zip(every, least)
                ]
                at = chance.randrange(len(lots))
                if chance.random() < 0.4 and lots[at]:
                    out = chance.randrange(len(lots[at]))
                    lots[at] = lots[at][:out] + lots[at][out + 1:]
                told = right_lots(chooser, trade, calendar, worths, number, tuple(lots))
                paper = ("within", tuple(lots))
                self.assertIs(shelf_holds(chooser, trade, calendar, worths, number, paper), told)
            if number > 0:
                self.assertIs(shelf_holds(chooser, trade, calendar, worths, number - 1, ("within", every)), False)

    def test_each_skyline_of_the_lots_is_looked_at(self):
        calendar, worths = ((1,), ()), (1, 1)
        lots = judge_shelf(BEST, T, calendar, worths, 1)[1]
        for at, lot in enumerate(lots):
            for out in range(len(lot)):
                less = lots[:at] + (lot[:out] + lot[out + 1:],) + lots[at + 1:]
                self.assertIs(shelf_holds(BEST, T, calendar, worths, 1, ("within", less)), False)
                twice = lots[:at] + (lot[:out + 1] + lot[out:],) + lots[at + 1:]
                self.assertIs(shelf_holds(BEST, T, calendar, worths, 1, ("within", twice)), False)
            back = lots[:at] + (lot[::-1],) + lots[at + 1:]
            self.assertIs(shelf_holds(BEST, T, calendar, worths, 1, ("within", back)), False)
        self.assertIs(shelf_holds(BEST, T, calendar, worths, 1, ("within", lots + lots)), False)
        self.assertIs(shelf_holds(BEST, T, calendar, worths, 0, ("within", lots)), False)
        # What stands but is no skyline does not belong into a lot.
        no_line = (((), ((0, 1), (1, 1)), ((1, 1),), ((1, 2),)), lots[1])
        self.assertIs(shelf_holds(BEST, T, calendar, (0, 0), 1, ("within", no_line)), False)
        # Without comings the lots of the first day alone may be enough, not without the bare skyline.
        self.assertIs(shelf_holds(BEST, T, ((),), worths, 0, ("within", (((),),))), True)
        self.assertIs(shelf_holds(BEST, T, ((),), worths, 0, ("within", ((),))), False)

    def test_taking_back_is_looked_at(self):
        every = Trade((1, 1), (0, 1))
        lots = judge_shelf(BOTH, every, ((0, 1),), (1, 1), 2)[1]
        self.assertEqual(len(lots[0]), 4)
        less = (tuple(line for line in lots[0] if line != ((1, 1),)),)
        self.assertIs(shelf_holds(BOTH, every, ((0, 1),), (1, 1), 2, ("within", less)), False)

    def test_streams_of_other_hands(self):
        chance = random.Random(312)
        met = {True: 0, False: 0}
        for chooser, trade, calendar, worths in cases(313):
            for _ in range(8):
                stream = random_stream(chance, trade, chance.randint(0, 7))
                number = chance.choice((-1, 0, 1, 2, 5))
                told = right_paper(chooser, trade, calendar, worths, number, ("beyond", stream))
                paper = ("beyond", stream)
                self.assertIs(shelf_holds(chooser, trade, calendar, worths, number, paper), told)
                met[told] += 1
        self.assertGreater(min(met.values()), 20)
        long = (DAY,) * 398
        self.assertIs(shelf_holds(BEST, T, TURN, (1, 1), 0, ("beyond", long + (("come", 0),))), True)
        self.assertIs(shelf_holds(BEST, T, TURN, (1, 1), 0, ("beyond", long + (("come", 1),))), False)
        self.assertIs(shelf_holds(BEST, T, TURN, (1, 1), 0, ("beyond", (("come", 0),) + long)), False)

    def test_any_value_as_paper(self):
        for chooser, trade, calendar, worths, number in (
                (BEST, T, ((1,),), (1, 1), 1), (BEST, T, EACH, (1, 1), 1), (NONE, T, TURN, (1, 1), 0),
                (BOTH, Trade((1, 1), (0,)), TURN, (2, 1), 2), (BOTH, U, ((),), (1, 1), -1),
        ):
            paper = judge_shelf(chooser, trade, calendar, worths, number)
            for thing in any_values() + [paper] + list(spoilt(paper)):
                told = right_paper(chooser, trade, calendar, worths, number, thing)
                self.assertIs(shelf_holds(chooser, trade, calendar, worths, number, thing), told, thing)


class TurnsTest(unittest.TestCase):
    def slowly(self, chooser, trade, calendar, rounds=12):
        """Many rounds, looked at from behind."""
        rows, stood = [], ()
        for _ in range(rounds):
            row = []
            for some in calendar:
                for offer in some:
                    stood = naive.after(trade, stood, ("come", offer))
                stood = naive.after(trade, stood, DAY)
                row.append(naive.skyline(chooser, trade, stood))
            rows.append(tuple(row))
        ahead = rounds
        while ahead > 0 and rows[ahead - 1] == rows[-1]:
            ahead -= 1
        return (ahead, rows[-1])

    def test_worked_example(self):
        self.assertEqual(called(self, turns, BEST, T, EACH), (0, (((1, 1),),)))

    def test_as_the_document_says(self):
        found = {}
        for chooser, trade, calendar, _ in list(cases(314, 80)):
            told = called(self, turns, chooser, trade, calendar)
            self.assertEqual(told, self.slowly(chooser, trade, calendar))
            self.assertEqual(len(told[1]), len(calendar))
            found[told[0]] = True
        self.assertEqual(set(found), {0, 1})
        long = Trade((9, 9, 7), (1,))
        for chooser in random_choosers(3, 5, 315) + [EVERY, TWO]:
            for calendar in product(naive.sets_of(3)[::2], repeat=3):
                self.assertEqual(turns(chooser, long, calendar), self.slowly(chooser, long, calendar))

    def test_skylines_that_differ_in_the_first_round(self):
        # On the first day of the first round 1 has not come yet.
        self.assertEqual(turns(BOTH, T, TURN), (0, (((0, 1),), ((1, 1),))))
        three = Trade((3, 3), ())
        self.assertEqual(turns(BOTH, three, TURN), (1, (((0, 2), (1, 1)), ((0, 1), (1, 2)))))


class FewestDaysTest(unittest.TestCase):
    def slowly(self, chooser, trade, calendar, dated):
        """What stands is led on, day by day."""
        rows, met, days = {(0, ())}, set(), 0
        while rows:
            waiting, later = list(rows), set()
            while waiting:
                index, stood = waiting.pop()
                if (index, stood) in met:
                    continue
                met.add((index, stood))
                if naive.skyline(chooser, trade, stood) == dated:
                    return days
                later.add(((index + 1) % len(calendar), naive.after(trade, stood, DAY)))
                for deed in deeds_of_trade(trade):
                    if deed != DAY and (deed[0] == "gone" or deed[1] in calendar[index]):
                        waiting.append((index, naive.after(trade, stood, deed)))
            rows, days = later, days + 1
        return None

    def test_worked_example(self):
        self.assertEqual(called(self, fewest_days, BEST, T, EACH, ((0, 2), (1, 1))), 1)

    def test_as_the_document_says(self):
        found = {}
        for chooser, trade, calendar, _ in cases(316, 20):
            lines = skylines(chooser, trade)
            for dated in lines[::4] + lines[-1:]:
                told = called(self, fewest_days, chooser, trade, calendar, dated, most=2000)
                self.assertEqual(told, self.slowly(chooser, trade, calendar, dated))
                found[told] = True
        self.assertTrue({None, 0, 1, 2, 3} <= set(found), found)

    def test_what_is_no_skyline(self):
        self.assertIs(called(self, fewest_days, BEST, T, EACH, ((0, 1), (1, 2))), None)
        self.assertIs(fewest_days(NONE, T, EACH, ((0, 1),)), None)
        self.assertEqual(fewest_days(NONE, T, EACH, ()), 0)

    def test_most(self):
        many = len(spots(BEST, T, TURN))
        self.assertEqual(fewest_days(BEST, T, TURN, ((0, 2),), most=many), 0)
        for dated in (((0, 2),), (), ((0, 1), (1, 2))):
            refused(self, TooMany, {"most": many - 1}, fewest_days, BEST, T, TURN, dated, most=many - 1)


class ErrorsTest(unittest.TestCase):
    def test_other_offers_ahead_of_all_else(self):
        for trade in (MANY, Trade((1,), ())):
            for function in (spots, turns):
                refused(self, OtherOffers, {}, function, BEST, trade, None)
                refused(self, OtherOffers, {}, function, BEST, trade, ((0,),))
            for function in (shelf, first_greatest, fewest_days):
                refused(self, OtherOffers, {}, function, BEST, trade, None, None)
            refused(self, OtherOffers, {}, judge_shelf, BEST, trade, None, None, 0, most=0)
            refused(self, OtherOffers, {}, shelf_holds, BEST, trade, None, None, 0, None)

    def test_bad_calendars_behind_other_offers(self):
        for value in any_values() + list(spoilt(TURN)) + [(), ((0,), (2,))]:
            if right_calendar(T, value):
                continue
            told = {"thing": value}
            refused(self, BadCalendar, told, spots, BEST, T, value, most=0)
            refused(self, BadCalendar, told, turns, BEST, T, value)
            refused(self, BadCalendar, told, does_keep, T, value, None)
            refused(self, BadCalendar, told, does_keep, trade=T, calendar=value, stream=())
            for function in (shelf, first_greatest, fewest_days):
                refused(self, BadCalendar, told, function, BEST, T, value, None, most=0)
            refused(self, BadCalendar, told, judge_shelf, BEST, T, value, None, 0, most=0)
            refused(self, BadCalendar, told, shelf_holds, BEST, T, value, None, 0, None)

    def test_bad_worths_behind_bad_calendars(self):
        for value in any_values() + list(spoilt((0, 3))) + [(0, -1), (1, True), (1,), (1, 1, 1), (0, None)]:
            if right_worths(T, value):
                continue
            told = {"thing": value}
            for function in (shelf, first_greatest):
                refused(self, BadWorths, told, function, BEST, T, EACH, value, most=0)
                refused(self, BadWorths, told, function, chooser=BEST, trade=T, calendar=EACH, worths=value)
            refused(self, BadWorths, told, judge_shelf, BEST, T, EACH, value, 0, most=0)
            refused(self, BadWorths, told, shelf_holds, BEST, T, EACH, value, 0, ("beyond", ()))
        self.assertEqual(shelf(BEST, T, EACH, (0, 10 ** 39)), 10 ** 39)

    def test_bad_streams_and_dated_sets_behind_bad_calendars(self):
        for value in any_values() + list(spoilt((("come", 1), DAY))):
            if not right_stream(T, value):
                refused(self, BadStream, {"thing": value}, does_keep, T, EACH, value)
        for value in any_values() + list(spoilt(((0, 1), (1, 2)))):
            if not right_dated(T, value):
                refused(self, BadDated, {"thing": value}, fewest_days, BEST, T, EACH, value, most=0)
                refused(self, BadDated, {"thing": value}, fewest_days, chooser=BEST, trade=T, calendar=EACH, dated=value)


if __name__ == "__main__":
    unittest.main()
