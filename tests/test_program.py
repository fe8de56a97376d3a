"""The whole program: what one part tells goes into the papers of another, and each paper is accepted."""

import random
import unittest

import naive
from samples import BEST, BOTH, T, TWO, any_values, random_choosers, random_stream, random_trade, refused

from offerstands import errors
from offerstands.chains import chain_holds, first_chain, judge_chain
from offerstands.changes import with_offer, without_offer
from offerstands.choosers import Chooser
from offerstands.console import Console
from offerstands.corners import closed, corners, judge_fewest, many_lists
from offerstands.errors import OtherOffers
from offerstands.findings import finding_holds
from offerstands.gates import first_shown
from offerstands.groups import judge_group
from offerstands.guards import judge_offer
from offerstands.house import House
from offerstands.idle import plain_stream
from offerstands.keepers import Keeper
from offerstands.lies import judge_lies
from offerstands.lists import by_lists, judge_apart
from offerstands.making import either_of, in_turn, leaving_out, renamed
from offerstands.markets import Market, outcome
from offerstands.means import judge_mean, mean_broken
from offerstands.notebooks import first_stream_to, judge_notebook, least_notebook, note_behind, shortened
from offerstands.oneness import are_one, judge_one
from offerstands.plans import judge_waiting, least_waiting
from offerstands.positions import broken_along, is_course
from offerstands.pressing import pressed_all
from offerstands.promises import fault_of
from offerstands.relays import judge_relay, least_relay, marks_along
from offerstands.rings import judge_ends
from offerstands.rounds import best_settled
from offerstands.settlers import Settler
from offerstands.shelves import first_greatest, judge_shelf, shelf
from offerstands.sides import is_settled, judge_settled, settled_sets
from offerstands.skylines import judge_ever, skyline, skylines
from offerstands.slips import judge_fewest_marks, judge_office, least_office, told_by_slip
from offerstands.streams import bringing, picks_along, stands
from offerstands.summaries import least_summaries
from offerstands.sure import judge_sure
from offerstands.trades import Trade, offers_of, stream_read, stream_text
from offerstands.waits import is_keeping


class RunTest(unittest.TestCase):
    def accept(self, *finding):
        self.assertIs(finding_holds(finding), True, finding)

    def test_one_run_through_all_parts(self):
        for seed in range(8):
            chance = random.Random(7700 + seed)
            offers = chance.choice((2, 3, 3))
            near, far = random_choosers(offers, 2, 7700 + seed)
            trade = random_trade(chance, offers, 2)
            stream = random_stream(chance, trade, 12)
            self.choosers(near, far)
            self.streams(near, far, trade, stream)
            self.notes(near, trade, stream)
            self.sides(near, far, offers_of(stands(trade, stream)))
            self.loans(near, far, trade, stream)
            self.registrars(near, trade, stream)
            self.markets(far, offers)
            self.house(near, far, trade, stream)

    def choosers(self, near, far):
        for made in (near, far, either_of(near, far), in_turn(near, far), leaving_out(near, (0,)),
                     renamed(far, tuple(range(len(far)))[::-1])):
            text = str(made)
            self.accept("apart", text, judge_apart(made))
            self.accept("fewest", text, judge_fewest(made))
            lists = judge_fewest(made)[1]
            self.assertEqual(len(lists), many_lists(made))
            self.assertEqual(by_lists(len(made), lists), Chooser.read(text))
            for _, some in corners(made):
                self.assertEqual(closed(made, some), some)

    def streams(self, near, far, trade, stream):
        dated = stands(trade, stream_read(trade, stream_text(stream)))
        left = skyline(near, trade, dated)
        self.accept("skyline", str(near), str(trade), dated, left)
        self.accept("ever", str(near), str(trade), dated, left, judge_ever(near, trade, dated, left))
        self.accept("ever", str(far), str(trade), dated, (), judge_ever(far, trade, dated, ()))
        # What is brought, and what the plain stream leaves, is ever the same.
        for other in (bringing(trade, left), plain_stream(near, trade, stream)):
            end = stands(trade, other)
            self.accept("ever", str(near), str(trade), dated, end, ("same", left))
        for offer in offers_of(dated):
            paper = judge_offer(near, trade, dated, offer)
            self.accept("offer", str(near), str(trade), dated, offer, paper)
            if paper[0] == "shown":
                self.assertIn(offer, picks_along(near, trade, paper[1], start=dated)[-1])

    def notes(self, near, trade, stream):
        question, told = ("picks", near), ("picks", str(near))
        notebook = least_notebook(question, trade)
        rows = skylines(near, trade)
        self.assertEqual(len(notebook[0]), len(rows))
        self.accept("notebook", told, str(trade), notebook, judge_notebook(question, trade, notebook))
        self.assertEqual(shortened(trade, notebook), notebook)
        dated = stands(trade, stream)
        other = stands(trade, first_stream_to(question, trade, note_behind(trade, notebook, stream)))
        self.assertIs(are_one(question, trade, dated, other), True)
        self.accept("one", told, str(trade), dated, other, judge_one(question, trade, dated, other))
        self.assertEqual(least_summaries(question, trade, dated), (skyline(near, trade, dated),))
        calendar, worths = (tuple(range(len(trade))),), (1,) * len(trade)
        most = shelf(near, trade, calendar, worths)
        self.assertEqual(most, max(len(row) for row in rows))
        for number in (most, most - 1):
            self.accept("shelf", str(near), str(trade), calendar, worths, number,
                        judge_shelf(near, trade, calendar, worths, number))
        greatest = first_greatest(near, trade, calendar, worths)
        self.accept("shelf", str(near), str(trade), calendar, worths, most - 1, ("beyond", greatest))
        if most > 0:
            self.accept("fault", str(trade), (str(near),), ("shelf", most - 1), (str(near),), ("beyond", greatest))

    def sides(self, near, far, standing):
        texts = (str(near), str(far))
        for part in settled_sets(near, far, standing):
            self.accept("settled", *texts, standing, part, judge_settled(near, far, standing, part))
        for offer in standing:
            self.accept("choice", *texts, standing, offer, judge_sure(near, far, standing, offer))
            rest = tuple(x for x in standing if x != offer)
            best = best_settled(near, far, rest)
            for part in with_offer(near, far, rest, best, offer):
                self.assertIs(is_settled(near, far, standing, part), True)
            for part in without_offer(near, far, standing, best_settled(near, far, standing), offer):
                self.assertIs(is_settled(near, far, rest, part), True)
        self.accept("chain", *texts, standing, (), judge_chain(near, far, standing, ()))
        self.accept("ends", *texts, standing, (), judge_ends(near, far, standing, ()))
        chain = first_chain(near, far, standing, ())
        self.assertIs(chain_holds(near, far, standing, (), ("chain", chain)), True)
        self.assertIs(is_settled(near, far, standing, pressed_all(near, far, standing, (), chain)), True)

    def loans(self, near, far, trade, stream):
        texts = (str(near), str(far), str(trade))
        mean, least = mean_broken(near, far, trade), least_waiting(near, far, trade)
        self.assertEqual(mean == (0, 1), least == 0)
        for fraction in (mean, (mean[0] + 1, mean[1]), (mean[0], mean[1] + 1)):
            self.accept("mean", *texts, fraction, judge_mean(near, far, trade, fraction))
        for number in range(least + 1):
            self.accept("waiting", *texts, number, judge_waiting(near, far, trade, number))
        settler, keeper = Settler(near, far, trade), Keeper(near, far, trade, least)
        course = tuple(settler.take(deed) for deed in stream)
        self.assertIs(is_course(near, far, trade, stream, course), True)
        self.assertEqual(settler.broken_so_far, broken_along(trade, stream, course))
        self.assertIs(is_keeping(near, far, trade, stream, tuple(keeper.take(deed) for deed in stream)), True)
        self.assertEqual((settler.stood, keeper.standing_now), (stands(trade, stream),) * 2)
        if least > 0:
            with self.assertRaises(errors.CannotKeep) as caught:
                Keeper(near, far, trade, least - 1)
            self.accept("waiting", *texts, least - 1, caught.exception.paper)

    def registrars(self, near, trade, stream):
        dated = stands(trade, stream)
        for shares in naive.every_shares(len(trade))[::2]:
            for word, right in (("now", picks_along(near, trade, stream)[-1]), ("on", skyline(near, trade, dated))):
                office, relay = least_office(near, trade, shares, word), least_relay(near, trade, shares, word)
                head = (str(near), str(trade), shares, word)
                self.accept("slips", *head, office, judge_office(near, trade, shares, word, office))
                self.accept("marks", *head, judge_fewest_marks(near, trade, shares, word))
                paper = judge_relay(near, trade, shares, word, relay)
                self.accept("relay", *head, relay, paper)
                self.assertEqual(told_by_slip(near, trade, shares, word, office, naive.slip(shares, office, dated)), right)
                self.assertEqual(dict(paper[1])[marks_along(trade, shares, relay, dated)[-1]], right)
        # With one hand, that has all, and "on", marks are the notes of streams.
        whole = (tuple(range(len(trade))),)
        self.assertEqual(len(judge_fewest_marks(near, trade, whole, "on")[2][0]),
                         len(least_notebook(("picks", near), trade)[0]))

    def markets(self, taker, offers):
        for shares in naive.every_shares(offers):
            market = Market(taker, shares, shares)
            self.accept("lies", str(taker), shares, shares, judge_lies(market))
            self.accept("group", str(taker), shares, shares, (0,), judge_group(market, (0,)))
            houses = by_lists(offers, shares)
            self.accept("settled", str(houses), str(taker), tuple(range(offers)), outcome(market, shares), ("settled",))

    def house(self, near, far, trade, stream):
        house, edition = House(), (near, far)
        house.set_up("a", trade, len(trade), edition)
        least, mean = least_waiting(near, far, trade), mean_broken(near, far, trade)
        for promise in (("waits", least), ("breaks", mean), ("lists", max(map(many_lists, edition)))):
            house.make_promise("a", promise)
        texts, desk = (str(near), str(far)), house.desk("a")
        for deed in stream:
            desk.take(deed)
        self.assertEqual(desk.stands_now, stands(trade, stream))
        self.assertEqual(desk.skylines_now[0], skyline(near, trade, stands(trade, stream)))
        for promise in (("waits", 0), ("breaks", (0, 1)), ("shelf", 0), ("notes", 1), ("lists", 0)):
            fault = fault_of(trade, edition, promise, edition)
            if fault is None:
                continue
            self.accept("fault", str(trade), texts, promise, texts, fault)
            if promise not in house.promises("a"):
                refused(self, errors.Unkept, {"promise": promise, "fault": fault}, house.make_promise, "a", promise)
        shown = first_shown(len(trade), edition, edition[::-1])
        if shown is not None:
            self.accept("shown", len(trade), texts, texts[::-1], shown)
            refused(self, errors.Shown, {"stream": shown}, house.add_edition, "a", edition[::-1])
        self.console(house, stream)

    def console(self, house, stream):
        """A console that gets the changes of a house's log answers as the house does."""
        console = Console()
        for change in house.log():
            if change[0] == "set up":
                rows = " / ".join(text.replace("\n", ";") for text in (change[2], *change[4]))
                self.assertEqual(console.run(f"set {change[1]} {change[3]} {rows}"), "ok")
            else:
                told = change[2][1] if change[2][0] != "breaks" else "/".join(map(str, change[2][1]))
                self.assertEqual(console.run(f"promise {change[1]} {change[2][0]} {told}"), "ok")
        self.assertEqual(console.house_now(), house)
        self.assertEqual(console.house_now().log(), house.log())
        for deed in stream:
            console.run("take a " + stream_text((deed,)))
        self.assertEqual(console.run("stream a"), stream_text(stream))
        self.assertEqual(House.of(console.house_now().log()), house)


class WholeTest(unittest.TestCase):
    def test_a_house_never_raises_other_offers(self):
        house, three = House(), Trade((1, 1, 1), ())
        house.set_up("a", T, 2, (BEST, BOTH))
        for call in (
                lambda: house.set_up("b", three, 1, (BEST,)), lambda: house.set_up("b", T, 1, (BEST, TWO)),
                lambda: house.add_edition("a", (TWO, TWO)), lambda: house.add_edition("a", (BEST, TWO)),
                lambda: house.make_promise("a", ("same settled", (2,))),
                lambda: House.of((("set up", "a", str(three), 1, (str(BEST),)),)),
        ):
            with self.assertRaises(errors.OfferError) as caught:
                call()
            self.assertNotIsInstance(caught.exception, OtherOffers)

    def test_objects_are_compared_by_equality_alone(self):
        values = [value for value in any_values() if type(value).__module__.startswith("offerstands.")]
        self.assertGreater(len({type(value) for value in values}), 7)
        for one in values:
            for other in any_values():
                if type(one) is not type(other):
                    self.assertIs(one == other, False)
                    self.assertIs(one != other, True)


if __name__ == "__main__":
    unittest.main()
