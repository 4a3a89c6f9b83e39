"""The whole program: asked again and again, by turns, objects tell the same, and functions agree with each other."""

import random
import unittest

from helpers import ENDS, drawn, drawn_lot, largest_lot, outcome
from lamprounds.certificates import certify_alike, certify_made, certify_root, certify_same, certify_steps
from lamprounds.checker import accepts
from lamprounds.doing import level_after, often, order, then, undone
from lamprounds.forms import cosets, doing, form, makes, needless, plan, same, within
from lamprounds.likeness import alike, commute, is_alike, root
from lamprounds.limits import LEVELS
from lamprounds.lots import Lot
from lamprounds.mends import holds, mends
from lamprounds.rounds import Round
from lamprounds.streets import Street
from lamprounds.walks import least_walk, steps, walked


def asked(lot, trip):
    """All questions of a lot and a near round, each as a name and a function of a lot and a round."""
    changes = ((0, trip.text), (0, ""), (len(lot) - 1, Round(lot.levels, (), 1).text))
    wishes = (("makes", trip.text), ("cosets", 50))
    return (
        ("form", lambda lot, trip: form(lot)), ("cosets", lambda lot, trip: cosets(lot)),
        ("needless", lambda lot, trip: needless(lot)), ("makes", makes), ("plan", plan),
        ("doing", lambda lot, trip: doing(lot, ((0, 2), (len(lot) - 1, -1)))),
        ("same", lambda lot, trip: same(lot, Lot(lot.rounds[:1]))),
        ("within", lambda lot, trip: within(lot, Lot(lot.rounds[:1]))),
        ("mends", lambda lot, trip: mends(lot, wishes, changes)), ("holds", lambda lot, trip: holds(lot, wishes[0])),
        ("then", lambda lot, trip: then(trip, lot.rounds[0])), ("undone", lambda lot, trip: undone(trip)),
        ("often", lambda lot, trip: often(trip, 3)), ("order", lambda lot, trip: order(trip)),
        ("level", lambda lot, trip: level_after(trip, 10 ** 30, 5)), ("steps", lambda lot, trip: steps(trip)),
        ("walk", lambda lot, trip: least_walk(trip)), ("is_alike", lambda lot, trip: is_alike(trip, lot.rounds[0])),
        ("alike", lambda lot, trip: alike(trip, trip)), ("root", lambda lot, trip: root(trip, 2)),
        ("commute", lambda lot, trip: commute(trip, lot.rounds[0])), ("made", certify_made),
        ("same for sure", lambda lot, trip: certify_same(lot, Lot(lot.rounds[::-1]))),
        ("alike for sure", lambda lot, trip: certify_alike(trip, lot.rounds[0])),
        ("root for sure", lambda lot, trip: certify_root(trip, 3)),
        ("steps for sure", lambda lot, trip: certify_steps(trip)),
    )


class Again(unittest.TestCase):
    def test_three_times_by_turns(self):
        draw = random.Random(1)
        for levels in LEVELS:
            for ends in ENDS[::3]:
                lots = [drawn_lot(draw, levels, ends, 4, 8), largest_lot(draw, levels, ends)]
                trips = [drawn(draw, levels, 5, 20, 8), lots[0].rounds[-1]]
                questions = asked(lots[0], trips[0])
                calls = [(question, lot, trip) for question in questions for lot in lots for trip in trips] * 3
                draw.shuffle(calls)
                known = {}
                for (name, call), lot, trip in calls:
                    key = (name, lot.text, trip.text)
                    if key not in known:
                        fresh = Lot.read(lot.text), Round(trip.levels, trip.lamps, trip.end)
                        known[key] = outcome(call, *fresh)
                    with self.subTest(key=key):
                        self.assertEqual(outcome(call, lot, trip), known[key])

    def test_nothing_that_is_passed_is_changed(self):
        draw = random.Random(2)
        for levels in LEVELS:
            lot, trip = drawn_lot(draw, levels, (2, -4, 0)), drawn(draw, levels, 5, 20, 8)
            rounds, texts = lot.rounds, (lot.text, trip.text)
            for _, call in asked(lot, trip):
                call(lot, trip)
                self.assertIs(lot.rounds, rounds)
                self.assertEqual((lot.text, trip.text), texts)


class Agreement(unittest.TestCase):
    def test_lots(self):
        draw = random.Random(3)
        for levels in LEVELS:
            for ends in ENDS:
                lot, other = drawn_lot(draw, levels, ends, 2, 1), drawn_lot(draw, levels, draw.choice(ENDS), 2, 1)
                with self.subTest(lot=lot.text, other=other.text):
                    for one in (lot, other):
                        self.assertIs(same(one, one) and within(one, one), True)
                        self.assertIs(holds(one, ("step", form(one)[0])), True)
                        self.assertIs(holds(one, ("cosets", cosets(one) or 0)), cosets(one) is not None)
                    self.assertIs(same(lot, other), form(lot) == form(other))
                    self.assertIs(same(lot, other), within(lot, other) and within(other, lot))
                    self.assertIs(within(lot, other), all(makes(other, trip) for trip in lot.rounds))
                    self.assertIs(certify_same(lot, other) is not None, same(lot, other))
                    if within(lot, other) and None not in (cosets(lot), cosets(other)):
                        self.assertEqual(cosets(lot) % cosets(other), 0)

    def test_needless_rounds(self):
        draw = random.Random(4)
        for levels in LEVELS:
            for ends in ENDS:
                lot = drawn_lot(draw, levels, ends, 2, 1)
                for at, trip in enumerate(lot.rounds):
                    others = lot.rounds[:at] + lot.rounds[at + 1:] or (Round(levels, (), 0),)
                    fewer = Lot(others)
                    with self.subTest(lot=lot.text, at=at):
                        self.assertIs(at in needless(lot), same(lot, fewer))
                        self.assertIs(at in needless(lot), makes(fewer, trip))
                        self.assertIs(within(fewer, lot), True)
                        claim, certificate = certify_made(fewer, trip)
                        self.assertEqual(claim[0], "makes" if at in needless(lot) else "misses")
                        self.assertIs(accepts(claim, certificate), True)

    def test_rounds(self):
        draw = random.Random(5)
        for levels in LEVELS:
            for _ in range(40):
                trip, between = drawn(draw, levels, 4, 6, 4), drawn(draw, levels, 4, 6, 4)
                second = then(then(between, trip), undone(between))
                street = Street(levels)
                for sign in least_walk(trip):
                    street.do(walked(levels, sign))
                self.assertEqual(street.trip, trip)
                self.assertEqual(len(street), steps(trip))
                self.assertIs(is_alike(trip, second), True)
                self.assertEqual(order(trip), order(second))
                found = alike(trip, second)
                self.assertEqual(then(found, trip), then(second, found))
                self.assertIs(commute(trip, often(trip, 5)), True)
                self.assertIs(is_alike(root(often(trip, 11), 11), trip), True)
                # What a lot makes of one round alone is what that round comes to when it is done often.
                lot = Lot((trip,))
                for times in (-3, 2, 4):
                    self.assertIs(makes(lot, often(trip, times)), True)
                self.assertIs(makes(lot, second), second in [often(trip, times) for times in range(-9, 10)])

    def test_a_street_on_which_a_plan_is_done(self):
        draw = random.Random(6)
        for levels in LEVELS:
            for ends in ENDS[::2]:
                lot = drawn_lot(draw, levels, ends, 3, 3)
                trip = doing(lot, ((0, 2), (len(lot) - 1, 1), (0, -1)))
                if max([abs(place) for place, _ in trip.lamps] + [abs(trip.end)]) > 40:
                    continue
                street = Street(levels)
                for index, times in plan(lot, trip):
                    street.do(often(lot.rounds[index], times))
                self.assertEqual(street.trip, trip)


if __name__ == "__main__":
    unittest.main()
