"""Certificates: each one has the claim that is asked for, and the checker accepts it."""

import itertools
import random
import unittest

from helpers import (ENDS, NO_LOTS, NO_NUMBERS, NO_ROUNDS, Model, check_wrong, drawn, drawn_lot, drawn_model,
                     largest_lot, outcome)
from lamprounds.certificates import certify_alike, certify_made, certify_root, certify_same, certify_steps
from lamprounds.checker import accepts
from lamprounds.doing import often
from lamprounds.errors import InvalidNumber, NotLot, NotRound, OtherLevels, TooFar, TooMany
from lamprounds.forms import form, makes, same
from lamprounds.likeness import alike, root
from lamprounds.limits import LEVELS
from lamprounds.lots import Lot
from lamprounds.rounds import Round
from lamprounds.walks import steps

BIG = 10 ** 26 + 9
FAR = ((((41, 1),), 0, 41), (((-41, 1),), 0, 41), ((), 41, 41), ((), -BIG, BIG), (((0, 1), (BIG, 1)), 60, BIG),
       (((-70, 1), (71, 1)), -72, 72))


class Case(unittest.TestCase):
    def check(self, call, named, claim):
        """Check a certificate of a call with these arguments by name, and its claim; return it."""
        with self.subTest(call=call.__name__, named=named):
            found = call(*named.values())
            self.assertEqual(call(**dict(reversed(named.items()))), found)
            if claim is None:
                self.assertIsNone(found)
                return None
            self.assertIs(type(found), tuple)
            self.assertEqual(len(found), 2)
            self.assertEqual(found[0], claim)
            self.assertIs(accepts(*found), True)
            return found[1]


class Made(Case):
    def check_made(self, lot, trip):
        word = "makes" if makes(lot, trip) else "misses"
        shown = self.check(certify_made, {"lot": lot, "trip": trip}, (word, lot.text, trip.text))
        if word == "misses":
            self.assertEqual(shown, form(lot) if lot.levels == trip.levels else ())
        return word

    def test_drawn(self):
        draw = random.Random(1)
        counts = {}
        for levels in LEVELS:
            for ends in ENDS:
                for lot in (drawn_lot(draw, levels, ends, 3, 2), drawn_lot(draw, levels, ends, 6, 24),
                            largest_lot(draw, levels, ends)):
                    for trip in (lot.rounds[-1], drawn(draw, levels, 3, 3, 3), drawn(draw, levels, 9, 40, 40),
                                 Round(levels, (), 0), Round(levels, ((-40, 1),), 40), Round(levels, (), ends[0])):
                        word = self.check_made(lot, trip)
                        counts[word] = counts.get(word, 0) + 1
        self.assertGreater(min(counts.values()), 200)

    def test_unlike_levels(self):
        for first, second in itertools.permutations(LEVELS, 2):
            lot = Lot((Round(first, (), 1), Round(first, ((0, 1),), 0)))
            for lamps, end in (((), 0), (((-40, 1), (40, 1)), 40)):
                self.assertEqual(self.check_made(lot, Round(second, lamps, end)), "misses")

    def test_errors(self):
        lot = Lot((Round(5, (), 1),))
        for trip in (Round(5, (), 0), Round(3, (), 0), Round(5, (), 41)):
            check_wrong(self, certify_made, ("lot", "trip"), (lot, trip), ((NotLot, NO_LOTS), (NotRound, NO_ROUNDS)))
        for lamps, end, size in FAR:
            for levels in (5, 7):
                self.assertEqual(outcome(certify_made, lot, Round(levels, lamps, end)), (TooFar, {"given": size}))


class Same(Case):
    def test_drawn(self):
        draw = random.Random(2)
        counts = {True: 0, False: 0}
        for levels in LEVELS:
            for ends in ENDS:
                lots = [drawn_lot(draw, levels, ends, 2, 1) for _ in range(2)] + [drawn_lot(draw, levels, ends)]
                lots.append(Lot(lots[-1].rounds[::-1]))
                largest = largest_lot(draw, levels, ends)
                pairs = [(largest, Lot(largest.rounds[::-1])), (largest, Lot(largest.rounds[1:] or largest.rounds))]
                for lot, other in pairs + list(itertools.product(lots, repeat=2)):
                    expected = same(lot, other)
                    counts[expected] += 1
                    claim = ("same", lot.text, other.text) if expected else None
                    shown = self.check(certify_same, {"lot": lot, "other": other}, claim)
                    if expected:
                        self.assertEqual([len(plans) for plans in shown], [len(other), len(lot)])
        self.assertGreater(min(counts.values()), 300)

    def test_unlike_levels(self):
        for first, second in itertools.permutations(LEVELS, 2):
            lot, other = Lot((Round(first, (), 1),)), Lot((Round(second, (), 1),))
            self.check(certify_same, {"lot": lot, "other": other}, None)

    def test_errors(self):
        lot = Lot((Round(5, (), 1),))
        for other in (lot, Lot((Round(3, (), 1),))):
            check_wrong(self, certify_same, ("lot", "other"), (lot, other), ((NotLot, NO_LOTS), (NotLot, NO_LOTS)))


class Likeness(Case):
    def test_drawn(self):
        draw = random.Random(3)
        counts = {True: 0, False: 0}
        for levels in LEVELS:
            for size, end in ((3, 1), (6, 0), (12, 5), (13, 13)):
                for _ in range(20):
                    one, between = drawn_model(draw, levels, 3, size, end), drawn_model(draw, levels, 3, size, 13)
                    for second in (between.then(one).then(between.undone()).round(), one.round(),
                                   Round(levels, drawn(draw, levels, 3, size, end).lamps, one.end)):
                        trip, found = one.round(), alike(one.round(), second)
                        counts[found is not None] += 1
                        claim = ("alike", trip.text, second.text) if found is not None else None
                        shown = self.check(certify_alike, {"trip": trip, "second": second}, claim)
                        self.assertEqual(shown, found.text if found is not None else None)
        self.assertGreater(min(counts.values()), 50)

    def test_the_farthest(self):
        draw = random.Random(4)
        for levels in LEVELS:
            full = tuple((place, draw.randrange(1, levels)) for place in range(-40, 41))
            for end in (-40, -1, 0, 1, 39):
                trip = Round(levels, full, end)
                self.check(certify_alike, {"trip": trip, "second": trip}, ("alike", trip.text, trip.text))

    def test_errors(self):
        near = Round(5, ((-40, 1),), 40)
        for second in (near, Round(3, (), 1), Round(5, (), 41)):
            check_wrong(self, certify_alike, ("trip", "second"), (near, second),
                        ((NotRound, NO_ROUNDS), (NotRound, NO_ROUNDS)))
        for first, second in itertools.permutations(LEVELS, 2):
            for end in (0, 41):
                found = outcome(certify_alike, Round(first, (), end), Round(second, (), 0))
                self.assertEqual(found, (OtherLevels, {"given": second}))
        for lamps, end, size in FAR:
            far = Round(5, lamps, end)
            for args in ((far, near), (near, far), (far, Round(5, (), 10 ** 30))):
                self.assertEqual(outcome(certify_alike, *args), (TooFar, {"given": size}))


class Roots(Case):
    def test_drawn(self):
        draw = random.Random(5)
        counts = {True: 0, False: 0}
        for levels in LEVELS:
            for size, end in ((4, 2), (5, 0), (BIG, BIG), (30, 9)):
                for times in (1, 2, 3, 5, 6, 7, 14):
                    one = drawn_model(draw, levels, 4, size, end)
                    for trip in (one.often(times).round(), one.round(), one.often(times).then(one).round()):
                        found = root(trip, times)
                        counts[found is not None] += 1
                        claim = ("root", trip.text, times) if found is not None else None
                        shown = self.check(certify_root, {"trip": trip, "times": times}, claim)
                        self.assertEqual(shown, found.text if found is not None else None)
        self.assertGreater(min(counts.values()), 80)

    def test_great_numbers(self):
        for times in (BIG, 10 ** 99, 2 * BIG):
            for levels in LEVELS:
                trip = Round(levels, ((0, 1), (times * BIG, levels - 1)), times * BIG)
                claim = ("root", trip.text, times)
                self.assertEqual(self.check(certify_root, {"trip": trip, "times": times}, claim), root(trip, times).text)
                dark = Round(levels, (), -times * times)
                self.check(certify_root, {"trip": dark, "times": times}, ("root", dark.text, times))

    def test_errors(self):
        trip = Round(2, ((0, 1), (402, 1)), 2)
        check_wrong(self, certify_root, ("trip", "times"), (trip, 3),
                    ((NotRound, NO_ROUNDS), (InvalidNumber, NO_NUMBERS + (0, -1, -BIG))))
        self.assertEqual(outcome(certify_root, trip, 2), (TooMany, {"given": 402}))
        self.assertEqual(outcome(certify_root, times=2, trip=trip), (TooMany, {"given": 402}))


class Walks(Case):
    def test_drawn(self):
        draw = random.Random(6)
        for levels in LEVELS:
            for size, end in ((5, 5), (100, 40), (2, 900), (400, 0)):
                for _ in range(10):
                    trip = drawn(draw, levels, 7, size, end)
                    shown = self.check(certify_steps, {"trip": trip}, ("steps", trip.text, steps(trip)))
                    self.assertEqual(len(shown), steps(trip))
        full = Round(7, tuple((place, 6) for place in range(-200, 200)), 10)
        self.check(certify_steps, {"trip": full}, ("steps", full.text, steps(full)))
        self.check(certify_steps, {"trip": often(Round(2, (), 4), 1000)}, ("steps", "levels 2 end 4000 dark", 4000))

    def test_errors(self):
        check_wrong(self, certify_steps, ("trip",), (Round(2, (), 0),), ((NotRound, NO_ROUNDS),))
        for parts, many in (((2, (), 4001), 4001), ((7, ((10 ** 30, 6),), 0), 2 * 10 ** 30 + 6)):
            self.assertEqual(outcome(certify_steps, Round(*parts)), (TooMany, {"given": many}))
            self.assertEqual(outcome(certify_steps, trip=Round(*parts)), (TooMany, {"given": many}))


class Texts(Case):
    def test_the_texts_are_those_of_lots_and_rounds(self):
        draw = random.Random(7)
        for levels in LEVELS:
            lot = drawn_lot(draw, levels, (2, 0, 4))
            trip = drawn(draw, levels, 4, 9, 9)
            for claim, _ in (certify_made(lot, trip), certify_same(lot, lot)):
                self.assertEqual(Lot.read(claim[1]), lot)
            for claim, _ in (certify_alike(trip, trip), certify_root(trip, 1), certify_steps(trip)):
                self.assertEqual(Round.read(claim[1]), trip)
            self.assertEqual(Model(levels, trip.lamps, trip.end).round().text, certify_steps(trip)[0][1])


if __name__ == "__main__":
    unittest.main()
