"""The interface: names, parameters, and the files in which they are defined."""

import ast
import importlib
import inspect
import pathlib
import unittest

PACKAGE = pathlib.Path(__file__).resolve().parent.parent / "offerstands"

FUNCTIONS = {
    "choosers": ["is_set(offers, thing)", "all_sets(offers)", "together(one, other)"],
    "lists": [
        "is_list(offers, thing)", "are_lists(offers, thing)", "firsts(lists, some)", "by_lists(offers, lists)",
        "is_apart(chooser)", "first_against(chooser)", "judge_apart(chooser)", "apart_holds(chooser, thing)",
    ],
    "corners": [
        "closed(chooser, some)", "closed_sets(chooser)", "same_picks(chooser, some)", "corners(chooser)",
        "many_lists(chooser)", "fewest_lists(chooser)", "judge_fewest(chooser)", "fewest_hold(chooser, thing)",
    ],
    "making": [
        "first_some(offers, row, many)", "either_of(one, other)", "in_turn(one, other)", "leaving_out(chooser, some)",
        "renamed(chooser, order)", "first_other_picks(one, other)",
    ],
    "trades": [
        "is_dated(trade, thing)", "is_stream(trade, thing)", "stream_text(stream)", "stream_read(trade, text)",
        "put_together(one, other)", "aged(dated, days)", "offers_of(dated)",
    ],
    "streams": [
        "stands(trade, stream, *, start=())", "moments(trade, stream, *, start=())",
        "picks_along(chooser, trade, stream, *, start=())", "bringing(trade, dated)",
    ],
    "skylines": [
        "skyline(chooser, trade, dated)", "is_skyline(chooser, trade, dated)", "joined(chooser, trade, one, other)",
        "skylines(chooser, trade, *, most=400)", "shown_ever(chooser, trade, dated)",
        "are_ever_same(chooser, trade, one, other)", "first_parting(chooser, trade, one, other)",
        "judge_ever(chooser, trade, one, other)", "ever_holds(chooser, trade, one, other, thing)",
    ],
    "guards": [
        "least_guards(chooser, trade, dated, offer)", "first_showing(chooser, trade, dated, offer)",
        "judge_offer(chooser, trade, dated, offer)", "offer_holds(chooser, trade, dated, offer, thing)",
    ],
    "idle": ["idle_deeds(chooser, trade, stream, *, start=())", "plain_stream(chooser, trade, stream, *, start=())"],
    "sides": [
        "is_agreed(near, far, some)", "wished_by_both(near, far, some)", "is_settled(near, far, standing, part)",
        "judge_settled(near, far, standing, part)", "settled_holds(near, far, standing, part, thing)",
        "settled_sets(near, far, standing)", "is_as_good(chooser, one, other)",
    ],
    "rounds": ["rounds_of(near, far, standing)", "best_settled(near, far, standing)"],
    "questions": ["is_question(thing)", "answer_to(question, offers)", "deeds_of(trade)"],
    "oneness": [
        "are_one(question, trade, one, other)", "first_unlike(question, trade, one, other)",
        "judge_one(question, trade, one, other)", "one_holds(question, trade, one, other, thing)",
        "is_told_by(question, other, trade)", "first_untold(question, other, trade)",
    ],
    "notebooks": [
        "is_notebook(trade, thing)", "note_behind(trade, notebook, stream)",
        "least_notebook(question, trade, *, most=400)", "note_of(question, trade, dated)",
        "first_stream_to(question, trade, number)", "does_tell(question, trade, notebook)",
        "judge_notebook(question, trade, notebook)", "notebook_holds(question, trade, notebook, thing)",
        "shortened(trade, notebook)",
    ],
    "summaries": [
        "is_summary(question, trade, dated, thing)", "least_summaries(question, trade, dated)",
        "free_offers(question, trade, dated)",
    ],
    "shelves": [
        "is_calendar(trade, thing)", "does_keep(trade, calendar, stream)",
        "spots(chooser, trade, calendar, *, most=400)", "shelf(chooser, trade, calendar, worths, *, most=400)",
        "first_greatest(chooser, trade, calendar, worths, *, most=400)",
        "judge_shelf(chooser, trade, calendar, worths, number, *, most=400)",
        "shelf_holds(chooser, trade, calendar, worths, number, thing)", "turns(chooser, trade, calendar)",
        "fewest_days(chooser, trade, calendar, dated, *, most=400)",
    ],
    "sure": [
        "judge_sure(near, far, standing, offer)", "sure_holds(near, far, standing, offer, thing)",
        "sure_offers(near, far, standing)", "vain_offers(near, far, standing)",
    ],
    "shrinking": ["does_shrink(chooser)", "first_shrinking(chooser)"],
    "pressing": [
        "pressable(near, far, standing, part)", "pressed(near, far, standing, part, offer)",
        "pressed_all(near, far, standing, part, offers)", "parts_behind(near, far, standing, part)",
    ],
    "chains": [
        "first_chain(near, far, standing, part)", "chain_ends(near, far, standing, part)",
        "judge_chain(near, far, standing, part)", "chain_holds(near, far, standing, part, thing)",
    ],
    "rings": [
        "does_go_round(near, far, standing, part)", "longest_chain(near, far, standing, part)",
        "judge_ends(near, far, standing, part)", "ends_hold(near, far, standing, part, thing)",
    ],
    "changes": [
        "with_offer(near, far, standing, part, offer)", "without_offer(near, far, standing, part, offer)",
        "is_touched(near, far, standing, part, offer)",
    ],
    "positions": [
        "is_position(near, far, trade, thing)", "positions_of(near, far, trade, *, most=400)",
        "settler_moves(near, far, trade, position, deed)", "broken_by(position, following)",
        "is_course(near, far, trade, stream, thing)", "broken_along(trade, stream, course)",
        "fewest_broken(near, far, trade, stream)", "first_course(near, far, trade, stream)",
    ],
    "means": [
        "mean_broken(near, far, trade, *, most=400)", "judge_mean(near, far, trade, fraction, *, most=400)",
        "restless_cells(near, far, trade, fraction, *, most=400)", "mean_holds(near, far, trade, fraction, thing)",
    ],
    "waits": [
        "is_pledge(near, far, trade, thing)", "pledges_of(near, far, trade, *, most=400)",
        "waiting_in(near, far, pledge)", "keeper_turns(near, far, trade, pledge, deed)",
        "is_keeping(near, far, trade, stream, thing)", "burden_of(near, far, trade, stream, keeping)",
        "least_burden(near, far, trade, stream)", "first_keeping(near, far, trade, stream)",
    ],
    "plans": [
        "least_waiting(near, far, trade, *, most=400)", "judge_waiting(near, far, trade, number, *, most=400)",
        "waiting_holds(near, far, trade, number, thing)", "fewest_deeds(near, far, trade, number, *, most=400)",
        "greatest_plan(near, far, trade, number, *, most=400)",
    ],
    "offices": [
        "are_shares(trade, thing)", "views_of(trade, share)", "view_of(share, dated)",
        "is_office(trade, shares, thing)", "slip_of(trade, shares, office, dated)", "marks_used(trade, shares, office)",
    ],
    "slips": [
        "marks_needed(chooser, trade, shares, word)", "least_office(chooser, trade, shares, word)",
        "does_office_tell(chooser, trade, shares, word, office)", "judge_office(chooser, trade, shares, word, office)",
        "office_holds(chooser, trade, shares, word, office, thing)", "judge_fewest_marks(chooser, trade, shares, word)",
        "fewest_marks_hold(chooser, trade, shares, word, thing)",
        "told_by_slip(chooser, trade, shares, word, office, slip)",
    ],
    "relays": [
        "is_relay(trade, shares, thing)", "marks_along(trade, shares, relay, dated)",
        "marks_in_row(chooser, trade, shares, word)", "least_relay(chooser, trade, shares, word)",
        "does_relay_tell(chooser, trade, shares, word, relay)", "judge_relay(chooser, trade, shares, word, relay)",
        "relay_holds(chooser, trade, shares, word, relay, thing)",
    ],
    "markets": [
        "are_told(market, thing)", "houses_chooser(market, told)", "outcome(market, told)", "gets(market, told, house)",
        "told_by(market, told, house, row)", "has_rather(market, house, one, other)", "are_cut(market, told, longer)",
    ],
    "lies": [
        "does_gain(market, house, row)", "first_gain(market)", "judge_lies(market)", "lies_hold(market, thing)",
        "menu(market, house)",
    ],
    "groups": [
        "is_group(market, thing)", "group_gain(market, group)", "first_group(market)", "judge_group(market, group)",
        "group_holds(market, group, thing)",
    ],
    "promises": [
        "is_promise(trade, many, thing)", "fault_of(trade, choosers, promise, before)",
        "fault_holds(trade, choosers, promise, before, thing)",
    ],
    "gates": [
        "is_shown(room, before, after)", "first_shown(room, before, after)", "shown_holds(room, before, after, thing)",
    ],
    "chooserfindings": ["chooser_finding_holds(thing)"],
    "sidefindings": ["side_finding_holds(thing)"],
    "findings": ["finding_holds(thing)"],
}
CLASSES = {
    "choosers": {"Chooser": {
        "__init__": "(self, offers, picks)", "__len__": "(self)", "__eq__": "(self, other)", "__str__": "(self)",
        "read": "(cls, text)", "taken": "(self, some)",
    }},
    "trades": {"Trade": {
        "__init__": "(self, lives, loose)", "__len__": "(self)", "__eq__": "(self, other)", "__str__": "(self)",
        "read": "(cls, text)",
    }},
    "settlers": {"Settler": {"__init__": "(self, near, far, trade)", "take": "(self, deed)", "undo": "(self)"}},
    "keepers": {"Keeper": {"__init__": "(self, near, far, trade, number)", "take": "(self, deed)", "undo": "(self)"}},
    "markets": {"Market": {
        "__init__": "(self, taker, shares, lists)", "__len__": "(self)", "__eq__": "(self, other)",
    }},
    "house": {"House": {
        "__init__": "(self)", "set_up": "(self, name, trade, room, choosers)", "add_edition": "(self, name, choosers)",
        "make_promise": "(self, name, promise)", "release_promise": "(self, name, promise)",
        "take_down": "(self, name)", "undo": "(self)", "log": "(self)", "of": "(cls, log)", "trial": "(self)",
        "names": "(self)", "trade_of": "(self, name)", "room_of": "(self, name)", "editions": "(self, name)",
        "promises": "(self, name)", "__eq__": "(self, other)", "__len__": "(self)", "desk": "(self, name)",
    }},
    "desks": {"Desk": {"take": "(self, deed)", "undo": "(self)", "move_on": "(self)"}},
    "console": {"Console": {"__init__": "(self)", "run": "(self, command)", "house_now": "(self)"}},
}
PROPERTIES = {
    "settlers": {"Settler": ["stood", "kept_now", "broken_so_far", "deeds_done"]},
    "keepers": {"Keeper": ["standing_now", "kept_word", "waiting_now", "deeds_past"]},
    "desks": {"Desk": ["stands_now", "stream_now", "skylines_now", "taken_now"]},
}


def module(name):
    return importlib.import_module("offerstands." + name)


class InterfaceTest(unittest.TestCase):
    def test_functions(self):
        for name, rows in FUNCTIONS.items():
            for row in rows:
                function = getattr(module(name), row.partition("(")[0])
                self.assertEqual(function.__name__ + str(inspect.signature(function)), row)
                self.assertEqual(function.__module__, "offerstands." + name)

    def test_classes(self):
        for name, classes in CLASSES.items():
            for word, methods in classes.items():
                made = getattr(module(name), word)
                self.assertEqual(made.__module__, "offerstands." + name)
                for method, told in methods.items():
                    self.assertIn(method, vars(made))
                    there = vars(made)[method]
                    self.assertEqual(isinstance(there, classmethod), told.startswith("(cls"))
                    plain = there.__func__ if isinstance(there, classmethod) else there
                    self.assertEqual(str(inspect.signature(plain)), told)

    def test_properties(self):
        for name, classes in PROPERTIES.items():
            for word, told in classes.items():
                for row in told:
                    self.assertIsInstance(vars(getattr(module(name), word))[row], property)

    def test_names_that_begin_with_a_question_tell_true_or_false(self):
        words = ("is_", "are_", "can_", "does_")
        for path in PACKAGE.glob("*.py"):
            for node in ast.walk(ast.parse(path.read_text())):
                if isinstance(node, ast.FunctionDef):
                    asks = node.name.startswith(words) or node.name.endswith(("_hold", "_holds"))
                    nothing = [row for row in ast.walk(node) if isinstance(row, ast.Return) and row.value is None]
                    self.assertFalse(asks and nothing, node.name)


if __name__ == "__main__":
    unittest.main()
