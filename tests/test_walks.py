"""Rows of steps and their rounds, against walks and searches made here."""

import random
import unittest

from helpers import ANYTHING, NO_ROUNDS, EqualsAll, Model, check_wrong, drawn, outcome
from lamprounds.errors import InvalidLevels, InvalidSteps, NotRound, TooMany
from lamprounds.limits import LEVELS
from lamprounds.rounds import Round
from lamprounds.walks import least_walk, steps, walked

BIG = 10 ** 39 + 7
NO_LEVELS = ANYTHING + (0, 1, 4, 6, 8, 9, -2, 11, BIG, "2", (2,), [3])
NO_ROWS = tuple(value for value in ANYTHING if not isinstance(value, str)) + (0, 1, ("<", ">"), ["+"], {"+": 1}, b"+>")


def walk(levels, row):
    place, lamps = 0, {}
    for sign in row:
        if sign == "+":
            lamps[place] = lamps.get(place, 0) + 1
        place += {"<": -1, ">": 1, "+": 0}[sign]
    return Model(levels, lamps, place)


def rounds_by_steps(levels, most):
    """All rounds of rows of up to so many steps, with the least number of steps of each one."""
    found = {((), 0): 0}
    latest = [((), 0)]
    for many in range(1, most + 1):
        behind = []
        for lamps, place in latest:
            pressed = dict(lamps)
            pressed[place] = (pressed.get(place, 0) + 1) % levels
            pressed = tuple(sorted((at, level) for at, level in pressed.items() if level))
            for state in ((lamps, place - 1), (lamps, place + 1), (pressed, place)):
                if state not in found:
                    found[state] = many
                    behind.append(state)
        latest = behind
    return found


class Walked(unittest.TestCase):
    def check(self, levels, row):
        expected = walk(levels, row)
        with self.subTest(levels=levels, row=row):
            if len(expected.lamps) > 400:
                self.assertEqual(outcome(walked, levels, row), (TooMany, {"given": len(expected.lamps)}))
                return
            for found in (walked(levels, row), walked(steps=row, levels=levels)):
                self.assertIs(type(found), Round)
                self.assertEqual((found.levels, found.lamps, found.end), expected.parts())

    def test_small_rows(self):
        for levels in LEVELS:
            for row in ("", "<", ">", "+", "++", "+++++++", "<>", "+>", ">+", "<+", "+<", "<<<+>>>", "+<+<+<>+>+>+",
                        "<++>>>+<<"):
                self.check(levels, row)

    def test_rows_of_all_lengths(self):
        draw = random.Random(1)
        for levels in LEVELS:
            for many in (5, 30, 200, 3999, 4000):
                for weights in ((1, 1, 1), (1, 1, 8), (3, 1, 2), (1, 9, 2)):
                    self.check(levels, "".join(draw.choices("<>+", weights, k=many)))

    def test_many_lamps(self):
        self.check(2, "+>" * 400)
        self.check(3, "<+" * 400)
        self.assertEqual(outcome(walked, 2, "+>" * 401), (TooMany, {"given": 401}))
        self.assertEqual(outcome(walked, steps="+<" * 2000, levels=7), (TooMany, {"given": 2000}))
        # Lamps that are dark in the end do not count.
        self.check(2, "+>" * 401 + "<+")
        self.check(2, "++>" * 1000)
        self.assertEqual(len(walked(2, "+>" * 401 + "<+")), 400)

    def test_four_thousand_signs(self):
        for sign in "<>+":
            self.check(3, sign * 4000)
            self.assertEqual(outcome(walked, 3, sign * 4001), (InvalidSteps, {"index": 4000}))

    def test_wrong_signs(self):
        for row, index in (("x", 0), (" ", 0), ("+ >", 1), ("<>\n", 2), ("+-", 1), ("<<=", 2), ("V", 0), ("++>>.<", 4),
                           ("+>0", 2), ("<" * 3999 + "x", 3999), ("+" * 4000 + "x", 4000), ("+" * 4500, 4000),
                           ("+x" + "+" * 4500, 1), ("+>" * 401 + "x", 802), ("ab", 0), ("+\t+", 1)):
            for found in (outcome(walked, 2, row), outcome(walked, steps=row, levels=2)):
                with self.subTest(row=row[:20], index=index):
                    self.assertEqual(found, (InvalidSteps, {"index": index}))

    def test_no_strings(self):
        for value in NO_ROWS:
            with self.subTest(value=value):
                self.assertEqual(outcome(walked, 2, value), (InvalidSteps, {"index": None}))
                self.assertEqual(outcome(walked, steps=value, levels=2), (InvalidSteps, {"index": None}))

    def test_wrong_levels(self):
        for levels in NO_LEVELS:
            for row in ("+>", "x", None, EqualsAll(), "+>" * 401):
                for found, told in (outcome(walked, levels, row), outcome(walked, steps=row, levels=levels)):
                    with self.subTest(levels=levels, row=row):
                        self.assertIs(found, InvalidLevels)
                        self.assertEqual(list(told), ["given"])
                        self.assertIs(told["given"], levels)


class Steps(unittest.TestCase):
    def test_against_all_rows_of_few_steps(self):
        for levels, most in ((2, 12), (3, 11), (5, 10), (7, 9)):
            for (lamps, end), many in rounds_by_steps(levels, most).items():
                trip = Round(levels, lamps, end)
                if (steps(trip), len(least_walk(trip))) != (many, many) or walk(levels, least_walk(trip)).parts() != (
                        levels, lamps, end):
                    self.fail(f"{trip}: {many}, {steps(trip)}, {least_walk(trip)}")

    def test_places_of_forty_digits(self):
        draw = random.Random(2)
        for levels in LEVELS:
            for size, end in ((BIG, BIG), (30, BIG), (BIG, 30), (BIG, 0)):
                for _ in range(12):
                    trip = drawn(draw, levels, 7, size, end)
                    places = [place for place, _ in trip.lamps] + [0, trip.end]
                    low, high = min(places), max(places)
                    ways = [abs(low) + high - low + abs(high - trip.end), abs(high) + high - low + abs(low - trip.end)]
                    with self.subTest(trip=trip.text):
                        self.assertEqual(steps(trip), sum(level for _, level in trip.lamps) + min(ways))
                        self.assertEqual(steps(trip=trip), steps(trip))

    def test_told(self):
        self.assertEqual(steps(Round(5, (), 0)), 0)
        self.assertEqual(steps(Round(7, ((0, 6),), 0)), 6)
        self.assertEqual(steps(Round(2, (), -BIG)), BIG)
        self.assertEqual(steps(Round(2, ((5, 1),), 0)), 11)
        self.assertEqual(steps(Round(2, ((-5, 1),), 3)), 14)
        self.assertEqual(steps(Round(2, ((-5, 1), (9, 1)), -2)), 28)
        self.assertEqual(steps(Round(2, ((-BIG, 1),), BIG)), 3 * BIG + 1)

    def test_wrong_arguments(self):
        check_wrong(self, steps, ("trip",), (Round(2, (), 0),), ((NotRound, NO_ROUNDS),))


class LeastWalk(unittest.TestCase):
    def check(self, trip):
        for row in (least_walk(trip), least_walk(trip=trip)):
            with self.subTest(trip=trip.text):
                self.assertIs(type(row), str)
                self.assertEqual(len(row), steps(trip))
                self.assertEqual(walk(trip.levels, row).parts(), (trip.levels, trip.lamps, trip.end))

    def test_drawn(self):
        draw = random.Random(3)
        for levels in LEVELS:
            for size, end in ((8, 8), (3, 20), (40, 5), (300, 300)):
                for _ in range(12):
                    trip = drawn(draw, levels, 8, size, end)
                    self.check(trip)
                    self.assertEqual(walked(levels, least_walk(trip)), trip)

    def test_four_thousand_steps(self):
        for parts in ((2, (), 4000), (2, (), -4000), (2, ((0, 1),), 3999), (7, ((1000, 5),), -1995),
                      (3, ((-999, 2), (999, 2)), 0), (2, ((-1999, 1), (0, 1)), 0)):
            trip = Round(*parts)
            self.assertLessEqual(steps(trip), 4000)
            self.assertGreaterEqual(steps(trip), 3999)
            self.check(trip)

    def test_many_lamps(self):
        self.check(Round(7, tuple((place, 6) for place in range(-200, 200)), 10))

    def test_too_many_steps(self):
        for parts, many in (((2, (), 4001), 4001), ((2, (), -4001), 4001), ((2, ((0, 1),), 4000), 4001),
                            ((3, ((-999, 2), (1000, 2)), 0), 4002), ((2, (), BIG), BIG), ((5, (), -BIG), BIG),
                            ((7, ((10 ** 30, 6),), 0), 2 * 10 ** 30 + 6),
                            ((7, tuple((5 * place, 6) for place in range(400)), 0), 2400 + 3990)):
            for found in (outcome(least_walk, Round(*parts)), outcome(least_walk, trip=Round(*parts))):
                with self.subTest(parts=parts):
                    self.assertEqual(found, (TooMany, {"given": many}))

    def test_wrong_arguments(self):
        check_wrong(self, least_walk, ("trip",), (Round(2, (), 0),), ((NotRound, NO_ROUNDS),))


if __name__ == "__main__":
    unittest.main()
