"""Which rounds are alike and by which round, and which rounds commute."""

import itertools
import random
import unittest

from helpers import NO_ROUNDS, Model, check_wrong, drawn, drawn_model, model, outcome
from lamprounds.doing import often, then, undone
from lamprounds.errors import NotRound, OtherLevels, TooFar
from lamprounds.likeness import alike, commute, is_alike
from lamprounds.limits import LEVELS
from lamprounds.rounds import Round

BIG = 10 ** 26 + 9
SIZES = ((4, 3), (9, 0), (40, 40), (3, 12), (40, 1), (25, 6))
LARGE = ((BIG, BIG), (BIG, 0), (BIG, 4), (5, BIG), (BIG, BIG // 10 ** 6))


def shown(second, trip):
    """The second model, then the first one, then the second one undone."""
    return second.then(trip).then(second.undone())


def circle(trip):
    """The sums of the levels over the rests, around their circle: gaps and levels; places for the end 0."""
    if trip.end == 0:
        places = [place for place, _ in trip.lamps]
        return tuple((place - places[0], level) for place, level in trip.lamps)
    sums = {}
    for place, level in trip.lamps:
        sums[place % abs(trip.end)] = sums.get(place % abs(trip.end), 0) + level
    rests = sorted(rest for rest, level in sums.items() if level % trip.levels)
    behind = rests[1:] + rests[:1]
    gaps = [((later - rest - 1) % abs(trip.end), sums[rest] % trip.levels) for rest, later in zip(rests, behind)]
    return max([tuple(gaps[at:] + gaps[:at]) for at in range(len(gaps))], default=())


def are_alike(trip, second):
    return trip.end == second.end and circle(trip) == circle(second)


class IsAlike(unittest.TestCase):
    def check(self, trip, second, expected):
        with self.subTest(trip=trip.text, second=second.text):
            self.assertIs(is_alike(trip, second), expected)
            self.assertIs(is_alike(second=second, trip=trip), expected)
            self.assertIs(is_alike(second, trip), expected)

    def test_all_rounds_between(self):
        # All rounds with lamps at places 0 to 2, against what all rounds with lamps from -2 to 4 make of them.
        between = [Model(2, zip(range(-2, 5), levels), end)
                   for levels in itertools.product((0, 1), repeat=7) for end in range(-3, 4)]
        small = [Model(2, enumerate(levels), end) for levels in itertools.product((0, 1), repeat=3)
                 for end in (0, 1, -1, 2, -2, 3)]
        for trip in small:
            made = {shown(one, trip).parts() for one in between}
            for second in small:
                self.check(trip.round(), second.round(), second.parts() in made)

    def test_rounds_made_alike(self):
        draw = random.Random(1)
        for levels in LEVELS:
            for size, end in SIZES + LARGE:
                for _ in range(8):
                    trip = drawn_model(draw, levels, 6, size, end)
                    one = drawn_model(draw, levels, 6, size, size)
                    self.check(trip.round(), shown(one, trip).round(), True)

    def test_rounds_drawn(self):
        draw = random.Random(2)
        found = set()
        for levels in LEVELS:
            for end in range(-6, 7):
                for _ in range(60):
                    trip, second = [drawn(draw, levels, 4, 6, 0) for _ in range(2)]
                    trip, second = Round(levels, trip.lamps, end), Round(levels, second.lamps, end)
                    expected = are_alike(trip, second)
                    found.add((expected, end > 0, end < 0))
                    self.check(trip, second, expected)
        self.assertEqual(len(found), 6)

    def test_large_rounds_with_a_lamp_taken_elsewhere(self):
        draw = random.Random(3)
        for levels in LEVELS:
            for size, end in LARGE:
                for _ in range(8):
                    trip = drawn_model(draw, levels, 5, size, end)
                    second = shown(drawn_model(draw, levels, 5, size, size), trip)
                    self.check(trip.round(), second.then(Model(levels, {3: 1}, 0)).round(), False)
                    moved = second.then(Model(levels, {3: 1, draw.randint(4, 10): -1}, 0))
                    self.check(trip.round(), moved.round(), are_alike(trip.round(), moved.round()))
                    self.check(trip.round(), Round(levels, second.picture(), second.end + 1), False)

    def test_ends_that_are_not_the_same(self):
        for levels in LEVELS:
            for first, second in ((0, 1), (1, -1), (5, -5), (2, 4), (BIG, BIG + 1), (BIG, -BIG), (0, BIG)):
                self.check(Round(levels, (), first), Round(levels, (), second), False)

    def test_still_and_dark(self):
        for levels in LEVELS:
            for end in (0, 1, -4, BIG):
                self.check(Round(levels, (), end), Round(levels, (), end), True)
            self.check(Round(levels, (), 0), Round(levels, ((0, 1),), 0), False)
            self.check(Round(levels, (), 1), Round(levels, ((0, 1),), 1), False)
            self.check(Round(levels, (), 1), Round(levels, ((-1, 1), (9, levels - 1)), 1), True)
            self.check(Round(levels, (), 3), Round(levels, ((-1, 1), (9, levels - 1)), 3), False)
            self.check(Round(levels, (), -5), Round(levels, ((-1, 1), (9, levels - 1)), -5), True)

    def test_many_lamps_around_the_circle(self):
        lamps = tuple((place, 1) for place in range(400))
        moved = tuple((7 * BIG + place, 1) for place in range(399)) + ((7 * BIG + 400, 1),)
        self.check(Round(2, lamps, 1000), Round(2, tuple((7 * BIG + place, 1) for place in range(400)), 1000), True)
        self.check(Round(2, lamps, 1000), Round(2, moved, 1000), False)
        self.check(Round(2, lamps, 1), Round(2, moved, 1), True)
        odd = tuple((2 * place + BIG * (place % 2), 1) for place in range(0, 400, 2))
        self.check(Round(3, odd, BIG), Round(3, tuple((place + BIG + 5, level) for place, level in odd), BIG), True)

    def test_rounds_with_more_lamps_than_others_let(self):
        lamps = tuple((3 * place, place % 6 + 1) for place in range(400))
        other = tuple((3 * place + 1, place % 6 + 1) for place in range(400))
        self.check(Round(7, lamps, -5000), Round(7, other, -5000), True)

    def test_wrong_arguments(self):
        check_wrong(self, is_alike, ("trip", "second"), (Round(2, (), 0), Round(2, (), 0)),
                    ((NotRound, NO_ROUNDS), (NotRound, NO_ROUNDS)))

    def test_unlike_levels(self):
        for first, second in itertools.permutations(LEVELS, 2):
            for lamps, end in (((), 0), (((0, 1),), 5), (((BIG, 1),), BIG)):
                self.assertEqual(outcome(is_alike, Round(first, lamps, end), Round(second, lamps, end)),
                                 (OtherLevels, {"given": second}))


class Alike(unittest.TestCase):
    def check(self, trip, second):
        for found in (alike(trip, second), alike(second=second, trip=trip)):
            with self.subTest(trip=trip.text, second=second.text):
                if not are_alike(trip, second):
                    self.assertIsNone(found)
                    self.assertIs(is_alike(trip, second), False)
                    continue
                self.assertIs(type(found), Round)
                self.assertEqual(shown(model(found), model(trip)).parts(), (second.levels, second.lamps, second.end))
                self.assertEqual(then(then(found, trip), undone(found)), second)
                self.assertIs(is_alike(trip, second), True)

    def test_rounds_drawn(self):
        draw = random.Random(4)
        for levels in LEVELS:
            for size, end in SIZES:
                for _ in range(20):
                    trip = drawn(draw, levels, 4, size, end)
                    self.check(trip, drawn(draw, levels, 4, size, end))
                    self.check(trip, Round(levels, drawn(draw, levels, 4, size, end).lamps, trip.end))
                    self.check(trip, trip)

    def test_rounds_made_alike(self):
        draw = random.Random(5)
        for levels in LEVELS:
            for size, end in ((5, 3), (9, 0), (13, 13), (2, 8), (13, 1), (9, 40)):
                for _ in range(20):
                    trip = drawn_model(draw, levels, 5, size, end)
                    second = shown(drawn_model(draw, levels, 5, 13, 13), trip)
                    if all(abs(place) <= 40 for place in second.lamps):
                        self.check(trip.round(), second.round())

    def test_the_farthest_near_rounds(self):
        draw = random.Random(6)
        for levels in LEVELS:
            full = tuple((place, draw.randrange(1, levels)) for place in range(-40, 41))
            for end in (40, -40, 39, -21, 7, 1, -1, 0):
                self.check(Round(levels, full, end), Round(levels, full, end))
                total = sum(level for _, level in full) % levels
                self.check(Round(levels, full, 1), Round(levels, ((-40, total),) if total else (), 1))
                self.check(Round(levels, full, -1), Round(levels, ((40, total),) if total else (), -1))
                self.check(Round(levels, ((40, 1),), end), Round(levels, ((-40, 1),), end))
                self.check(Round(levels, ((-40, 1),), end), Round(levels, ((40, 1),), end))
                self.check(Round(levels, (), end), Round(levels, ((-40, 1), (40, levels - 1)), end))

    def test_wrong_arguments(self):
        check_wrong(self, alike, ("trip", "second"), (Round(2, (), 0), Round(2, (), 0)),
                    ((NotRound, NO_ROUNDS), (NotRound, NO_ROUNDS)))
        check_wrong(self, alike, ("trip", "second"), (Round(2, (), 41), Round(2, (), 0)),
                    ((NotRound, NO_ROUNDS), (NotRound, NO_ROUNDS)))

    def test_unlike_levels(self):
        for first, second in itertools.permutations(LEVELS, 2):
            for one, two in ((0, 0), (41, 0), (0, BIG), (-BIG, 50)):
                found = outcome(alike, Round(first, (), one), Round(second, (), two))
                self.assertEqual(found, (OtherLevels, {"given": second}))

    def test_rounds_that_are_not_near(self):
        near = Round(5, ((-40, 1), (40, 2)), -40)
        for lamps, end, size in (((), 41, 41), ((), -41, 41), (((41, 1),), 0, 41), (((-41, 1),), 0, 41),
                                 (((0, 1), (50, 1)), 60, 60), (((0, 1), (50, 1)), -49, 50),
                                 (((-70, 1), (50, 1)), 1, 70), (((-70, 1), (71, 1)), -72, 72),
                                 (((-BIG, 1), (3, 1)), 4, BIG), ((), -BIG, BIG),
                                 (((-40, 1), (40, 1)), 41, 41)):
            far = Round(5, lamps, end)
            expected = (TooFar, {"given": size})
            with self.subTest(far=far.text):
                self.assertEqual(outcome(alike, far, near), expected)
                self.assertEqual(outcome(alike, near, far), expected)
                self.assertEqual(outcome(alike, second=far, trip=near), expected)
                self.assertEqual(outcome(alike, far, Round(5, (), 10 ** 30)), expected)
                self.assertEqual(outcome(alike, Round(5, (), 10 ** 30), far), (TooFar, {"given": 10 ** 30}))
        self.assertIsNotNone(alike(near, near))


class Commute(unittest.TestCase):
    def check(self, trip, second):
        expected = trip.then(second).parts() == second.then(trip).parts()
        with self.subTest(trip=trip.parts(), second=second.parts()):
            self.assertIs(commute(trip.round(), second.round()), expected)
            self.assertIs(commute(second=second.round(), trip=trip.round()), expected)
            self.assertIs(commute(second.round(), trip.round()), expected)
        return expected

    def test_drawn(self):
        draw = random.Random(7)
        for levels in LEVELS:
            for size, end in SIZES + LARGE:
                for _ in range(8):
                    self.check(drawn_model(draw, levels, 4, size, end), drawn_model(draw, levels, 4, size, end))

    def test_all_small(self):
        small = [Model(2, enumerate(levels), end) for levels in itertools.product((0, 1), repeat=3)
                 for end in range(-2, 3)]
        found = [self.check(one, two) for one in small for two in small]
        self.assertGreater(found.count(True), len(small))
        self.assertGreater(found.count(False), len(small))

    def test_rounds_that_commute(self):
        draw = random.Random(8)
        for levels in LEVELS:
            for size, end in SIZES + LARGE:
                one = drawn_model(draw, levels, 4, size, end)
                for first in (-3, 0, 1, 2):
                    for second in (-2, 1, 3):
                        self.assertTrue(self.check(one.often(first), one.often(second)))
                pictures = [drawn_model(draw, levels, 4, size, 0) for _ in range(2)]
                self.assertTrue(self.check(*pictures))

    def test_many_lamps(self):
        one = Round(2, ((0, 1),), 1)
        self.assertIs(commute(often(one, 400), often(one, -399)), True)
        self.assertIs(commute(often(one, 400), Round(2, ((400, 1),), 1)), False)
        self.assertIs(commute(Round(2, often(one, 400).lamps, 0), Round(2, ((400, 1),), 0)), True)

    def test_wrong_arguments(self):
        check_wrong(self, commute, ("trip", "second"), (Round(2, (), 0), Round(2, (), 0)),
                    ((NotRound, NO_ROUNDS), (NotRound, NO_ROUNDS)))

    def test_unlike_levels(self):
        for first, second in itertools.permutations(LEVELS, 2):
            found = outcome(commute, Round(first, ((0, 1),), 1), Round(second, (), 0))
            self.assertEqual(found, (OtherLevels, {"given": second}))


if __name__ == "__main__":
    unittest.main()
