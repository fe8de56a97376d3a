"""[3.2], [3.4]: notebooks.py."""

import random
import unittest

import naive
from samples import (
    BEST, BOTH, EVERY, GREATEST, LEAST, LENDERS, NONE, NOT_APART, T, TAKERS, TWO, U, any_values, called, deeds_of_trade,
    every_chooser, every_dated, is_same, random_choosers, random_dated, random_stream, random_trade, refused, spoilt,
    streams_in_order,
)
from test_oneness import MANY, answer_at, great_questions, numbers_of, small_questions
from test_questions import PICKS, bad_questions
from test_trades import right_dated, right_stream

from offerstands.errors import BadDated, BadNote, BadNotebook, BadQuestion, BadSet, BadStream, OtherOffers, TooMany
from offerstands.notebooks import (
    does_tell, first_stream_to, is_notebook, judge_notebook, least_notebook, note_behind, note_of, notebook_holds,
    shortened,
)
from offerstands.skylines import skylines
from offerstands.trades import Trade

LEAST_OF_T = (
    ((1, 2, 0), (1, 2, 3), (2, 2, 4), (1, 2, 0), (5, 2, 0), (5, 2, 3)),
    ((), (0,), (1,), (0,), (1,), (1,)),
)
IDLE = (((0, 0, 0),), ((),))
ONE_DAY = Trade((1, 1), (0,))


def is_note(thing, many):
    return type(thing) is int and 0 <= thing < many


def right_notebook(trade, thing):
    if type(thing) is not tuple or len(thing) != 2 or type(thing[0]) is not tuple or type(thing[1]) is not tuple:
        return False
    many = len(thing[0])
    if many < 1 or many != len(thing[1]):
        return False
    deeds = len(deeds_of_trade(trade))
    return all(
        type(row) is tuple and len(row) == deeds and all(is_note(item, many) for item in row) for row in thing[0]
    )


def led_to(trade, notebook, stream):
    note = 0
    for deed in stream:
        note = notebook[0][note][sorted(deeds_of_trade(trade)).index(deed)]
    return note


def first_streams(trade, start, after, number):
    """The first stream to each number, all streams being tried in order, level by level."""
    found, rows = {number(start): ()}, [(start, ())]
    met = [start]
    while rows:
        further = []
        for state, stream in rows:
            for deed in sorted(deeds_of_trade(trade)):
                behind = after(state, deed)
                found.setdefault(number(behind), (*stream, deed))
                if behind not in met:
                    met.append(behind)
                    further.append((behind, (*stream, deed)))
        rows = further
    return found


def streams_to_notes(question, trade):
    numbers = numbers_of(question, trade)
    return first_streams(trade, (), lambda dated, deed: naive.after(trade, dated, deed), lambda dated: numbers[dated])


def least_of(question, trade):
    """The least notebook, of classes that are told slowly, numbered by their first streams."""
    numbers = numbers_of(question, trade)
    streams = list(streams_to_notes(question, trade).items())
    assert streams == sorted(streams, key=lambda row: (len(row[1]), row[1]))
    places = {number: at for at, (number, _) in enumerate(streams)}
    stood = [naive.stands(trade, stream) for _, stream in streams]
    moves = [
        tuple(places[numbers[naive.after(trade, dated, deed)]] for deed in sorted(deeds_of_trade(trade)))
        for dated in stood
    ]
    return (tuple(moves), tuple(answer_at(question, dated) for dated in stood))


def does_fail(question, trade, notebook, stream):
    return not is_same(notebook[1][led_to(trade, notebook, stream)], answer_at(question, naive.stands(trade, stream)))


def right_pairs(question, trade, notebook, thing):
    if type(thing) is not tuple:
        return False
    for item in thing:
        if type(item) is not tuple or len(item) != 2 or not is_note(item[0], len(notebook[0])):
            return False
        if not right_dated(trade, item[1]):
            return False
    if list(thing) != sorted(set(thing)) or (0, ()) not in thing:
        return False
    for note, dated in thing:
        if not is_same(notebook[1][note], answer_at(question, dated)):
            return False
        for at, deed in enumerate(sorted(deeds_of_trade(trade))):
            if (notebook[0][note][at], naive.after(trade, dated, deed)) not in thing:
                return False
    return True


def right_paper(question, trade, notebook, thing):
    if type(thing) is not tuple or len(thing) != 2 or type(thing[0]) is not str:
        return False
    if thing[0] == "tells":
        return right_pairs(question, trade, notebook, thing[1])
    if thing[0] == "fails" and right_stream(trade, thing[1]):
        return does_fail(question, trade, notebook, thing[1])
    return False


def cases(seed):
    chance = random.Random(seed)
    for question in small_questions():
        for trade in (T, U, Trade((1, 3), (0, 1)), ONE_DAY):
            yield question, trade
    for question in great_questions():
        yield question, random_trade(chance, question[1].offers, 2)


def greater(chance, notebook, more):
    """A notebook with the same answers behind each stream, with more notes, some of which no stream leads to."""
    moves, answers = [list(row) for row in notebook[0]], list(notebook[1])
    same = list(range(len(moves)))
    for _ in range(more):
        note = chance.randrange(len(same))
        moves.append(list(moves[note]))
        answers.append(answers[note])
        same.append(same[note])
    for row in moves:
        for at, found in enumerate(row):
            row[at] = chance.choice([note for note in range(len(same)) if same[note] == same[found]])
    return (tuple(map(tuple, moves)), tuple(answers))


def changed(chance, notebook, answers):
    """A notebook with another move, or another answer, somewhere."""
    moves, told = [list(row) for row in notebook[0]], list(notebook[1])
    note = chance.randrange(len(moves))
    if chance.random() < 0.5:
        moves[note][chance.randrange(len(moves[note]))] = chance.randrange(len(moves))
    else:
        told[note] = chance.choice(answers)
    return (tuple(map(tuple, moves)), tuple(told))


class NotebookTest(unittest.TestCase):
    def test_is_notebook(self):
        for trade, notebook in ((T, LEAST_OF_T), (T, IDLE), (U, (((0, 0, 0, 0),), (None,))), (T, (((0,) * 3,), ([],)))):
            self.assertIs(called(self, is_notebook, trade, notebook), True)
            for thing in any_values() + list(spoilt(notebook)):
                self.assertIs(called(self, is_notebook, trade, thing), right_notebook(trade, thing), thing)
        self.assertIs(is_notebook(U, LEAST_OF_T), False)
        self.assertIs(is_notebook(T, ((), ())), False)
        self.assertIs(is_notebook(T, (((0, 1, 0), (1, 0, 2)), ((), ()))), False)
        for answer in any_values():
            self.assertIs(is_notebook(T, (((0, 0, 0),), (answer,))), True)

    def test_note_behind(self):
        self.assertEqual(called(self, note_behind, T, LEAST_OF_T, ()), 0)
        self.assertEqual(called(self, note_behind, T, LEAST_OF_T, (("come", 1), ("day",), ("come", 0))), 5)
        chance = random.Random(201)
        for question, trade in list(cases(202))[::3]:
            notebook = greater(chance, least_notebook(question, trade), 5)
            for _ in range(5):
                stream = random_stream(chance, trade, chance.randint(0, 40))
                self.assertEqual(called(self, note_behind, trade, notebook, stream), led_to(trade, notebook, stream))

    def test_bad_notebooks_and_streams(self):
        for value in any_values() + list(spoilt(LEAST_OF_T)):
            if not right_notebook(T, value):
                refused(self, BadNotebook, {"thing": value}, note_behind, T, value, None)
                refused(self, BadNotebook, {"thing": value}, note_behind, trade=T, notebook=value, stream=())
                refused(self, BadNotebook, {"thing": value}, shortened, T, value)
                refused(self, BadNotebook, {"thing": value}, shortened, trade=T, notebook=value)
        for value in any_values() + list(spoilt((("come", 1), ("day",)))):
            if not right_stream(T, value):
                refused(self, BadStream, {"thing": value}, note_behind, T, LEAST_OF_T, value)


class LeastTest(unittest.TestCase):
    def test_worked_examples(self):
        self.assertEqual(called(self, least_notebook, PICKS, T), LEAST_OF_T)
        self.assertEqual(called(self, first_stream_to, PICKS, T, 5), (("come", 1), ("day",), ("come", 0)))
        self.assertEqual(called(self, first_stream_to, PICKS, T, 0), ())
        self.assertEqual(least_notebook(("picks", NONE), T), IDLE)
        for number, dated in enumerate(((), ((0, 2),), ((1, 2),), ((0, 1),), ((1, 1),), ((0, 2), (1, 1)))):
            self.assertEqual(called(self, note_of, PICKS, T, dated), number)

    def test_as_the_document_says(self):
        many = {}
        for question, trade in cases(203):
            notebook = called(self, least_notebook, question, trade)
            self.assertTrue(is_same(notebook, least_of(question, trade)), (question, trade))
            self.assertTrue(right_notebook(trade, notebook))
            many[question[0], len(notebook[0])] = True
        for word in ("picks", "takes", "settled", "best"):
            self.assertGreater(len([key for key in many if key[0] == word]), 3)

    def test_notes_and_first_streams(self):
        for at_case, (question, trade) in enumerate(list(cases(204))[::2]):
            streams = list(streams_to_notes(question, trade).values())
            numbers = numbers_of(question, trade)
            places = {numbers[naive.stands(trade, stream)]: at for at, stream in enumerate(streams)}
            for at, stream in enumerate(streams):
                self.assertEqual(called(self, first_stream_to, question, trade, at), stream)
            for dated in every_dated(trade)[::7]:
                self.assertEqual(called(self, note_of, question, trade, dated), places[numbers[dated]])
            values = any_values() if at_case < 3 else [True, False]
            for value in values + [len(streams), len(streams) + 1, -1, str(len(streams) - 1)]:
                if not is_note(value, len(streams)):
                    refused(self, BadNote, {"number": value}, first_stream_to, question, trade, value)
        refused(self, BadNote, {"number": True}, first_stream_to, question=PICKS, trade=T, number=True)

    def test_first_streams_are_first_of_all(self):
        for question, trade in list(cases(205))[::9]:
            found = {}
            numbers = numbers_of(question, trade)
            for stream in streams_in_order(trade, 4):
                found.setdefault(numbers[naive.stands(trade, stream)], stream)
            for at, stream in enumerate(list(found.values())[:len(least_notebook(question, trade)[0])]):
                self.assertEqual(first_stream_to(question, trade, at), stream)

    def test_of_picks_notes_are_skylines(self):
        chance = random.Random(206)
        for chooser in random_choosers(4, 5, 207) + random_choosers(3, 5, 208) + [NONE, BEST, BOTH, EVERY]:
            trade = random_trade(chance, chooser.offers, 2)
            lines = skylines(chooser, trade)
            self.assertEqual(len(least_notebook(("picks", chooser), trade)[0]), len(lines))
            notes = [note_of(("picks", chooser), trade, dated) for dated in lines]
            self.assertEqual(sorted(notes), list(range(len(lines))))

    def test_no_notebook_with_fewer_notes_tells(self):
        trade = Trade((1,), (0,))
        for chooser in every_chooser(1):
            question = ("picks", chooser)
            many = len(least_notebook(question, trade)[0])
            answers = ((), (0,))
            for notes in range(1, many):
                rows = naive.rows_of(range(notes), 3)
                for moves in naive.rows_of(rows, notes):
                    for told in naive.rows_of(answers, notes):
                        self.assertIs(does_tell(question, trade, (moves, told)), False)
            self.assertIs(does_tell(question, trade, least_notebook(question, trade)), True)

    def test_most(self):
        for question, trade in list(cases(209))[::5]:
            notebook = least_notebook(question, trade)
            many = len(notebook[0])
            self.assertEqual(called(self, least_notebook, question, trade, most=many), notebook)
            refused(self, TooMany, {"most": many - 1}, least_notebook, question, trade, most=many - 1)
        great = Trade((9, 9, 4), ())
        self.assertEqual(len(least_notebook(("picks", EVERY), great, most=500)[0]), 500)
        refused(self, TooMany, {"most": 400}, least_notebook, ("picks", EVERY), great)
        self.assertEqual(len(least_notebook(("picks", EVERY), Trade((9, 9, 3), ()))[0]), 400)

    def test_a_great_trade(self):
        every = ("picks", naive.every_of(4))
        notebook = least_notebook(every, Trade((3, 3, 3, 3), (0, 1, 2, 3)))
        self.assertEqual(len(notebook[0]), 256)


class TellTest(unittest.TestCase):
    def test_worked_examples(self):
        self.assertIs(called(self, does_tell, PICKS, T, IDLE), False)
        self.assertEqual(called(self, judge_notebook, PICKS, T, IDLE), ("fails", (("come", 0),)))
        self.assertIs(called(self, does_tell, PICKS, T, LEAST_OF_T), True)
        paper = called(self, judge_notebook, PICKS, T, LEAST_OF_T)
        self.assertEqual(paper[0], "tells")
        self.assertIs(called(self, notebook_holds, PICKS, T, LEAST_OF_T, paper), True)

    def test_as_the_document_says(self):
        chance = random.Random(210)
        met = {True: 0, False: 0}
        for question, trade in cases(211):
            least = least_notebook(question, trade)
            made = [least, greater(chance, least, 3), greater(chance, least, 20)]
            made += [changed(chance, greater(chance, least, 2), least[1]) for _ in range(3)]
            for notebook in made:
                paper = judge_notebook(question, trade, notebook)
                self.assertTrue(right_paper(question, trade, notebook, paper))
                self.assertIs(does_tell(question, trade, notebook), paper[0] == "tells")
                self.assertIs(notebook_holds(question, trade, notebook, paper), True)
                self.assertTrue(notebook not in made[:3] or paper[0] == "tells")
                met[paper[0] == "tells"] += 1
                if paper[0] == "fails" and len(paper[1]) < 5:
                    told = naive.first_stream(trade, lambda row: does_fail(question, trade, notebook, row), 4)
                    self.assertEqual(paper[1], told)
        self.assertGreater(min(met.values()), 50)

    def test_kinds_of_answers(self):
        takes = ("takes", BEST, 1)
        moves, answers = least_notebook(takes, T)
        self.assertIs(does_tell(takes, T, (moves, answers)), True)
        for at, answer in enumerate(answers):
            for other in (int(answer), not answer, None, str(answer), (answer,), [answer]):
                told = answers[:at] + (other,) + answers[at + 1:]
                paper = judge_notebook(takes, T, (moves, told))
                self.assertEqual(paper, ("fails", first_stream_to(takes, T, at)))
                self.assertIs(notebook_holds(takes, T, (moves, told), paper), True)
                pairs = judge_notebook(takes, T, (moves, answers))
                self.assertIs(notebook_holds(takes, T, (moves, told), pairs), False)
        moves, answers = LEAST_OF_T
        for at in range(6):
            swapped = {(): [], (0,): (False,), (1,): (True,)}[answers[at]]
            told = answers[:at] + (swapped,) + answers[at + 1:]
            self.assertEqual(judge_notebook(PICKS, T, (moves, told)), ("fails", first_stream_to(PICKS, T, at)))
        settled = ("settled", LEAST, GREATEST)
        trade = Trade((1, 1, 1), ())
        moves, answers = least_notebook(settled, trade)
        at = answers.index(((0,), (1,)))
        told = answers[:at] + (((False,), (1,)),) + answers[at + 1:]
        self.assertIs(does_tell(settled, trade, (moves, told)), False)
        self.assertIs(does_tell(settled, trade, (moves, answers)), True)

    def test_answers_of_notes_that_no_stream_leads_to(self):
        moves, answers = LEAST_OF_T
        for answer in any_values():
            notebook = (moves + ((6, 0, 1),), answers + (answer,))
            self.assertIs(does_tell(PICKS, T, notebook), True)

    def test_notes_told_twice(self):
        chance = random.Random(212)
        notebook = greater(chance, LEAST_OF_T, 34)
        self.assertIs(called(self, does_tell, PICKS, T, notebook), True)
        self.assertEqual(len(notebook[0]), 40)
        self.assertEqual(called(self, shortened, T, notebook), LEAST_OF_T)


class TellPapersTest(unittest.TestCase):
    def test_pairs_beyond_those_that_are_needed(self):
        needed = judge_notebook(PICKS, T, LEAST_OF_T)[1]
        notebook = (LEAST_OF_T[0] + ((6, 2, 3),), LEAST_OF_T[1] + ((0,),))
        numbers = {dated: note_of(PICKS, T, dated) for dated in every_dated(T)}
        every = tuple(sorted((note, dated) for dated, note in numbers.items()))
        self.assertIs(notebook_holds(PICKS, T, LEAST_OF_T, ("tells", every)), True)
        more = tuple(sorted(needed + ((6, ((0, 2),)),)))
        self.assertIs(notebook_holds(PICKS, T, notebook, ("tells", more)), True)
        self.assertIs(notebook_holds(PICKS, T, LEAST_OF_T, ("tells", more)), False)
        for rows in (needed, more):
            for at in range(len(rows)):
                less = rows[:at] + rows[at + 1:]
                self.assertIs(
                    notebook_holds(PICKS, T, notebook, ("tells", less)), right_pairs(PICKS, T, notebook, less)
                )
                self.assertIs(notebook_holds(PICKS, T, notebook, ("tells", rows[:at + 1] + rows[at:])), False)
        self.assertIs(notebook_holds(PICKS, T, notebook, ("tells", needed[::-1])), False)
        self.assertIs(notebook_holds(PICKS, T, notebook, ("tells", list(needed))), False)
        self.assertIs(notebook_holds(PICKS, T, notebook, ("tells", ())), False)
        self.assertIs(notebook_holds(PICKS, T, IDLE, ("tells", ((0, ()),))), False)
        wrong = tuple(sorted(needed + ((0, ((0, 1),)),)))
        self.assertIs(notebook_holds(PICKS, T, notebook, ("tells", wrong)), False)

    def test_streams_of_other_hands(self):
        chance = random.Random(213)
        for question, trade in list(cases(214))[::4]:
            notebook = changed(chance, least_notebook(question, trade), [(), (0,), True, None])
            for _ in range(10):
                stream = random_stream(chance, trade, chance.randint(0, 6))
                right = does_fail(question, trade, notebook, stream)
                self.assertIs(called(self, notebook_holds, question, trade, notebook, ("fails", stream)), right)
        long = (("day",),) * 399
        self.assertIs(notebook_holds(PICKS, T, IDLE, ("fails", long + (("come", 0),))), True)
        self.assertIs(notebook_holds(PICKS, T, IDLE, ("fails", (("come", 0),) + long)), False)

    def test_any_value_as_paper(self):
        takes = ("takes", BEST, 1)
        for question, trade, notebook in (
                (PICKS, ONE_DAY, least_notebook(PICKS, ONE_DAY)), (PICKS, T, IDLE),
                (("picks", NONE), ONE_DAY, (((0,) * 4,), ((),))), (takes, ONE_DAY, least_notebook(takes, ONE_DAY)),
                (takes, T, (((0, 0, 0),), (0,))),
        ):
            paper = judge_notebook(question, trade, notebook)
            for thing in any_values() + [paper] + list(spoilt(paper)):
                told = right_paper(question, trade, notebook, thing)
                self.assertIs(notebook_holds(question, trade, notebook, thing), told, thing)


class ShortenedTest(unittest.TestCase):
    def shortened_slowly(self, trade, notebook):
        """Notes are one if no stream leads from both to unlike answers, tried pair by pair."""
        moves, answers = notebook
        many = range(len(moves))
        unlike = {(a, b) for a in many for b in many if not is_same(answers[a], answers[b])}
        while True:
            more = {
                (a, b) for a in many for b in many
                if any(pair in unlike for pair in zip(moves[a], moves[b])) and (a, b) not in unlike
            }
            if not more:
                break
            unlike |= more
        number = {a: min(b for b in many if (a, b) not in unlike) for a in many}
        deeds = sorted(deeds_of_trade(trade))
        streams = first_streams(
            trade, 0, lambda note, deed: moves[note][deeds.index(deed)], lambda note: number[note],
        )
        places = {found: at for at, found in enumerate(streams)}
        rows = tuple(tuple(places[number[item]] for item in moves[found]) for found in streams)
        return (rows, tuple(answers[found] for found in streams))

    def random_notebook(self, chance, trade, notes, answers):
        deeds = len(deeds_of_trade(trade))
        moves = tuple(tuple(chance.randrange(notes) for _ in range(deeds)) for _ in range(notes))
        return (moves, tuple(chance.choice(answers) for _ in range(notes)))

    def test_random_notebooks(self):
        chance = random.Random(215)
        values = any_values()
        lengths = {}
        for notes in [1, 2, 3, 4, 5, 8, 13, 40] * 8:
            trade = chance.choice([T, U, ONE_DAY, MANY])
            answers = [chance.choice(values) for _ in range(chance.randint(1, 3))]
            notebook = self.random_notebook(chance, trade, notes, answers + [0, False])
            told = called(self, shortened, trade, notebook)
            self.assertTrue(is_same(told, self.shortened_slowly(trade, notebook)))
            self.assertTrue(right_notebook(trade, told))
            self.assertEqual(shortened(trade, told), told)
            for _ in range(5):
                stream = random_stream(chance, trade, chance.randint(0, 30))
                ends = [note_behind(trade, book, stream) for book in (notebook, told)]
                self.assertTrue(is_same(notebook[1][ends[0]], told[1][ends[1]]))
            lengths[len(told[0])] = True
        self.assertGreater(len(lengths), 6)

    def test_greater_ones_of_least_ones(self):
        chance = random.Random(216)
        for question, trade in cases(217):
            least = least_notebook(question, trade)
            self.assertTrue(is_same(shortened(trade, least), least))
            self.assertTrue(is_same(shortened(trade, greater(chance, least, 12)), least))

    def test_kinds_of_answers(self):
        two = lambda one, other: (((1, 1, 1), (1, 1, 1)), (one, other))
        unlike = (
            (True, 1), (False, 0), ((1,), (True,)), ([1], [True]), ([], ()), ([0], (0,)), ({1: 0}, {True: 0}),
            ({0: 1}, {0: True}), ({0: (1, 2)}, {0: (True, 2)}), (((0, (1,)),), ((0, (True,)),)), (0, None), ("", None),
            ("0", 0), ({(1, 2): 0}, {(True, 2): 0}), (BEST, TWO), (BEST, T), (BadSet(0), BadSet(0)), ([BEST], (BEST,)),
            ({"a": 1, "b": True}, {"b": 1, "a": True}), (((0, 1), True), ((0, 1), 1)), ({}, []), ((), None), (-1, 1),
            ((0,), (0, 0)), ([[0, 1]], [[0, 1, 1]]), ({0: 1}, {1: 0}), ({0: 1}, {0: 1, 1: 1}),
        )
        for one, other in unlike:
            for notebook in (two(one, other), two(other, one), two((one, 0), (other, 0))):
                self.assertTrue(is_same(shortened(T, notebook), notebook), (one, other))
        alike = [(value, value) for value in any_values()]
        alike += [(BEST, NOT_APART.__class__(2, BEST.picks)), ({"a": 1, "b": True}, {"b": True, "a": 1}), ([[0]], [[0]])]
        for one, other in alike:
            told = shortened(T, two(one, other))
            self.assertEqual(told[0], ((0, 0, 0),))
            self.assertEqual(len(told[1]), 1)
            self.assertTrue(is_same(told[1][0], one) or is_same(told[1][0], other))

    def test_notes_that_no_stream_leads_to(self):
        notebook = (((0, 0, 0), (1, 0, 2), (2, 2, 2)), ("a", "b", "c"))
        self.assertEqual(shortened(T, notebook), (((0, 0, 0),), ("a",)))

    def test_numbering(self):
        notebook = (((3, 2, 1), (1, 1, 1), (2, 2, 2), (3, 3, 3)), ("a", "b", "c", "d"))
        self.assertEqual(
            shortened(T, notebook), (((1, 2, 3), (1, 1, 1), (2, 2, 2), (3, 3, 3)), ("a", "d", "c", "b"))
        )


class ErrorsTest(unittest.TestCase):
    def test_bad_questions_ahead_of_all_else(self):
        for value in bad_questions():
            told = {"thing": value}
            refused(self, BadQuestion, told, least_notebook, value, MANY, most=0)
            refused(self, BadQuestion, told, least_notebook, question=value, trade=T)
            for function in (note_of, first_stream_to, does_tell, judge_notebook):
                refused(self, BadQuestion, told, function, value, MANY, None)
            refused(self, BadQuestion, told, notebook_holds, value, MANY, None, None)

    def test_other_offers_behind_bad_questions(self):
        for question in (PICKS, ("takes", BEST, 0), ("settled", BEST, BOTH), ("best", BEST, BOTH)):
            refused(self, OtherOffers, {}, least_notebook, question, MANY, most=0)
            for function in (note_of, first_stream_to, does_tell, judge_notebook):
                refused(self, OtherOffers, {}, function, question, MANY, None)
            refused(self, OtherOffers, {}, notebook_holds, question, MANY, IDLE, ("fails", ()))
        refused(self, OtherOffers, {}, least_notebook, question=("settled", LENDERS, TAKERS), trade=T)

    def test_bad_notebooks(self):
        for value in any_values() + list(spoilt(IDLE)) + [LEAST_OF_T]:
            if not right_notebook(U, value):
                for function in (does_tell, judge_notebook):
                    refused(self, BadNotebook, {"thing": value}, function, PICKS, U, value)
                    refused(self, BadNotebook, {"thing": value}, function, question=PICKS, trade=U, notebook=value)
                refused(self, BadNotebook, {"thing": value}, notebook_holds, PICKS, U, value, None)

    def test_bad_dated_sets(self):
        chance = random.Random(218)
        for value in any_values() + list(spoilt(((0, 1), (1, 2)))) + [random_dated(chance, MANY) for _ in range(9)]:
            if not right_dated(T, value):
                refused(self, BadDated, {"thing": value}, note_of, PICKS, T, value)
                refused(self, BadDated, {"thing": value}, note_of, question=PICKS, trade=T, dated=value)


if __name__ == "__main__":
    unittest.main()
