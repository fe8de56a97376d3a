"""Notebooks: what has to be noted of a stream to tell a question ([3.2], [3.4])."""

from offerstands.errors import BadNote, BadNotebook, TooMany
from offerstands.oneness import class_numbers, parted, steps_of
from offerstands.questions import answers_to, require_asked
from offerstands.streams import stands
from offerstands.trades import all_deeds, is_dated, is_stream, offers_of, require_dated, require_stream
from offerstands.values import (
    all_walks, first_walks, is_alike, is_ascending, is_integer_within, is_paper,
)


def is_notebook(trade, thing):
    """Whether any value is a notebook of a trade."""
    if not isinstance(thing, tuple) or len(thing) != 2:
        return False
    moves, answers = thing
    if not isinstance(moves, tuple) or not isinstance(answers, tuple):
        return False
    if len(moves) != len(answers) or len(moves) == 0:
        return False
    many = len(all_deeds(trade))
    return all([are_notes(row, many, len(moves)) for row in moves])


def note_behind(trade, notebook, stream):
    """The note to which a stream leads."""
    require_notebook(trade, notebook)
    require_stream(trade, stream)
    return note_led_to(trade, notebook, stream)


def least_notebook(question, trade, *, most=400):
    """The notebook with fewest notes that tells a question."""
    require_asked(question, trade)
    numbers = class_numbers(question, trade)
    steps = steps_of(trade)
    streams = streams_to_classes(trade, (), numbers, steps)
    if len(streams) > most:
        raise TooMany(most)
    answers = answers_to(question)
    told = {numbers[dated]: answers[offers_of(dated)] for dated in numbers}
    return notebook_of(list(streams), moves_of(numbers, steps), told)


def note_of(question, trade, dated):
    """The note of the least notebook to whose class a dated set belongs."""
    require_asked(question, trade)
    require_dated(trade, dated)
    numbers = class_numbers(question, trade)
    streams = streams_to_classes(trade, (), numbers, steps_of(trade))
    return list(streams).index(numbers[dated])


def first_stream_to(question, trade, number):
    """The first stream that leads to a note of the least notebook."""
    require_asked(question, trade)
    streams = streams_to_classes(trade, (), class_numbers(question, trade), steps_of(trade))
    if not is_integer_within(number, 0, len(streams) - 1):
        raise BadNote(number)
    return list(streams.values())[number]


def does_tell(question, trade, notebook):
    """Whether a notebook tells a question."""
    return judge_notebook(question, trade, notebook)[0] == "tells"


def judge_notebook(question, trade, notebook):
    """A paper: all pairs of a note and a dated set that come, or the first stream with a wrong answer."""
    require_told(question, trade, notebook)
    right = right_notes(question, notebook)
    deeds = all_deeds(trade)
    steps = steps_of(trade)
    stream, met = first_walks(
        (0, ()),
        lambda pair: list(zip(deeds, list(zip(notebook[0][pair[0]], steps[pair[1]])))),
        lambda pair: not right[(pair[0], offers_of(pair[1]))],
    )
    if stream is None:
        return ("tells", tuple(sorted(list(met))))
    return ("fails", stream)


def notebook_holds(question, trade, notebook, thing):
    """Whether any value is a paper on whether a notebook tells a question."""
    require_told(question, trade, notebook)
    right = right_notes(question, notebook)
    if is_paper(thing, "tells", 2) and are_noted(trade, len(notebook[0]), thing[1]):
        are_right = all([right[(note, offers_of(dated))] for note, dated in thing[1]])
        return are_right and (0, ()) in thing[1] and are_notes_led_on(trade, notebook, thing[1])
    if is_paper(thing, "fails", 2) and is_stream(trade, thing[1]):
        return not right[(note_led_to(trade, notebook, thing[1]), offers_of(stands(trade, thing[1])))]
    return False


def shortened(trade, notebook):
    """The notebook with fewest notes that has the same answer behind each stream."""
    require_notebook(trade, notebook)
    moves, answers = notebook
    steps = {note: list(row) for note, row in enumerate(moves)}
    numbers = parted(alike_numbers(answers), steps)
    streams = streams_to_classes(trade, 0, numbers, steps)
    told = {numbers[note]: answer for note, answer in enumerate(answers)}
    return notebook_of(list(streams), moves_of(numbers, steps), told)


def are_notes(thing, many, notes):
    """Whether any value is a tuple of so many numbers of notes."""
    if not isinstance(thing, tuple) or len(thing) != many:
        return False
    return all([is_integer_within(item, 0, notes - 1) for item in thing])


def require_notebook(trade, thing):
    """Raise BadNotebook for a value that is no notebook of the trade."""
    if not is_notebook(trade, thing):
        raise BadNotebook(thing)


def require_told(question, trade, notebook):
    """Raise BadQuestion, OtherOffers or BadNotebook."""
    require_asked(question, trade)
    require_notebook(trade, notebook)


def note_led_to(trade, notebook, stream):
    """The note of a right notebook to which a right stream leads."""
    deeds = all_deeds(trade)
    note = 0
    for deed in stream:
        note = notebook[0][note][deeds.index(deed)]
    return note


def right_notes(question, notebook):
    """For each note and each set whether the answer of the note is the one to the set."""
    answers = answers_to(question)
    return {
        (note, some): is_alike(answer, answers[some])
        for note, answer in enumerate(notebook[1]) for some in answers
    }


def are_noted(trade, notes, thing):
    """Whether any value is an ascending tuple of pairs of a note and a dated set within the trade."""
    if not isinstance(thing, tuple):
        return False
    for item in thing:
        if not isinstance(item, tuple) or len(item) != 2:
            return False
        if not is_integer_within(item[0], 0, notes - 1) or not is_dated(trade, item[1]):
            return False
    return is_ascending(thing)


def are_notes_led_on(trade, notebook, pairs):
    """Whether each deed leads from each pair of a note and a dated set to one of the pairs."""
    steps = steps_of(trade)
    there = {pair: True for pair in pairs}
    for note, dated in pairs:
        for pair in zip(notebook[0][note], steps[dated]):
            if pair not in there:
                return False
    return True


def alike_numbers(answers):
    """For each place the number of its answer, the same one for answers of the same kind of value."""
    unlike = []
    numbers = {}
    for note, answer in enumerate(answers):
        same = [at for at, other in enumerate(unlike) if is_alike(answer, other)]
        numbers[note] = same[0] if same else len(unlike)
        if not same:
            unlike.append(answer)
    return numbers


def moves_of(numbers, steps):
    """For each class the classes to which deeds lead."""
    return {numbers[state]: [numbers[found] for found in steps[state]] for state in steps}


def streams_to_classes(trade, start, numbers, steps):
    """The first stream to each class of states from that of a start on, in the order of these streams."""
    moves = moves_of(numbers, steps)
    deeds = all_deeds(trade)
    return all_walks(numbers[start], lambda number: list(zip(deeds, moves[number])))


def notebook_of(order, moves, answers):
    """The notebook whose notes are classes, numbered by their places in an order."""
    places = {number: at for at, number in enumerate(order)}
    rows = [tuple([places[found] for found in moves[number]]) for number in order]
    return (tuple(rows), tuple([answers[number] for number in order]))
