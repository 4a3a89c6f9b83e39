"""Whether a lot makes a round, plans for it, and the rounds of plans."""

import itertools
import random
import unittest

from helpers import (ANYTHING, ENDS, NO_LOTS, NO_ROUNDS, Model, check_wrong, drawn, drawn_lot, largest_lot, model,
                     outcome, planned, told_by)
from lamprounds.doing import often
from lamprounds.errors import InvalidPlan, NotLot, NotRound, TooFar, TooMany
from lamprounds.forms import doing, form, makes, plan
from lamprounds.limits import LEVELS
from lamprounds.lots import Lot
from lamprounds.plans import tidied
from lamprounds.rounds import Round

BIG = 10 ** 39 + 7


def is_near(trip):
    return all(abs(place) <= 40 for place in trip.lamps) and abs(trip.end) <= 40


def drawn_lots(seed, many):
    draw = random.Random(seed)
    for levels in LEVELS:
        for ends in ENDS:
            for _ in range(many):
                yield draw, drawn_lot(draw, levels, ends, draw.randint(0, 6), draw.choice((1, 4, 24)))
            yield draw, largest_lot(draw, levels, ends)


def made_near(draw, lot):
    """Models of near rounds that the lot makes: those of drawn plans, and made from its form."""
    for many in (0, 1, 2, 3, 5, 8):
        one = planned(lot, [(draw.randrange(len(lot)), draw.choice((-3, -2, -1, 1, 2, 3))) for _ in range(many)])
        if is_near(one):
            yield one
    step, rows, rest = form(lot)
    for _ in range(4):
        whole = Model(lot.levels, rest, step).often(draw.randint(-40 // step, 40 // step) if step else 0)
        for row in rows * 3:
            by = step * draw.randint(-8, 8)
            moved = Model(lot.levels, {place + by: level for place, level in row}, 0).often(draw.randrange(lot.levels))
            if is_near(moved.then(whole)):
                whole = moved.then(whole)
        if is_near(whole):
            yield whole


class MakesAndPlan(unittest.TestCase):
    def check(self, lot, one, expected):
        trip = one.round()
        with self.subTest(lot=lot.text, trip=trip.text):
            self.assertIs(makes(lot, trip), expected)
            self.assertIs(makes(trip=trip, lot=lot), expected)
            found = plan(lot, trip)
            self.assertEqual(plan(trip=trip, lot=lot), found)
            if not expected:
                self.assertIsNone(found)
                return
            self.assertIs(type(found), tuple)
            for pair in found:
                self.assertEqual([type(pair), type(pair[0]), type(pair[1])], [tuple, int, int])
                self.assertTrue(0 <= pair[0] < len(lot) and 1 <= abs(pair[1]) <= 1000)
            self.assertEqual(planned(lot, found).parts(), one.parts())
            self.assertEqual(doing(lot, found), trip)

    def test_rounds_that_are_made(self):
        most = 0
        for draw, lot in drawn_lots(1, 1):
            for one in made_near(draw, lot):
                self.check(lot, one, True)
                most = max(most, len(plan(lot, one.round())))
        self.assertGreater(most, 500)

    def test_a_lamp_or_the_end_otherwise(self):
        counts = {True: 0, False: 0}
        for draw, lot in drawn_lots(2, 1):
            found = form(lot)
            for one in list(made_near(draw, lot))[::2]:
                for changed in (one.then(Model(lot.levels, {}, draw.choice((-1, 1)))),
                                one.then(Model(lot.levels, {draw.randint(-9, 9) - one.end: 1}, 0))):
                    if is_near(changed):
                        expected = told_by(found, changed)
                        counts[expected] += 1
                        self.check(lot, changed, expected)
        self.assertGreater(min(counts.values()), 100)

    def test_drawn(self):
        counts = {True: 0, False: 0}
        for draw, lot in drawn_lots(3, 1):
            found = form(lot)
            for size in (2, 40):
                one = model(drawn(draw, lot.levels, 5, size, draw.choice((0, 8, 40))))
                expected = told_by(found, one)
                counts[expected] += 1
                self.check(lot, one, expected)
        self.assertGreater(min(counts.values()), 20)

    def test_the_farthest(self):
        draw = random.Random(4)
        for levels in LEVELS:
            full = Lot((Round(levels, (), 1), Round(levels, ((0, 1),), 0)))
            lot = Lot((Round(levels, (), 8), Round(levels, ((-24, 1),), 0), Round(levels, ((24, 1),), 0)))
            for end in (-40, 0, 40):
                one = Model(levels, {place: draw.randrange(levels) for place in range(-40, 41)}, end)
                self.check(full, one, True)
                lamps = {place: level for place, level in one.lamps.items() if place % 8 == 0}
                self.check(lot, Model(levels, lamps, end), True)
                self.check(lot, Model(levels, {**lamps, 3: 1}, end), False)
                self.check(lot, Model(levels, lamps, end - 1 if end > 0 else end + 1), False)

    def test_plans_without_pairs(self):
        for _, lot in drawn_lots(5, 1):
            self.assertEqual(plan(lot, Round(lot.levels, (), 0)), ())

    def test_rounds_far_apart_with_the_step_0(self):
        # Without a step nothing is moved, so a lamp as far away as rounds have it is no other lamp.
        lot = Lot((Round(3, ((-24, 1),), 0), Round(3, ((24, 1),), 0)))
        for place in range(-40, 41):
            self.check(lot, Model(3, {place: 2}, 0), abs(place) == 24)

    def test_unlike_levels(self):
        for first, second in itertools.permutations(LEVELS, 2):
            lot = Lot((Round(first, (), 1), Round(first, ((0, 1),), 0)))
            for lamps, end in (((), 0), ((), 1), (((-40, 1), (40, 1)), 40)):
                self.assertIs(makes(lot, Round(second, lamps, end)), False)
                self.assertIsNone(plan(lot, Round(second, lamps, end)))

    def test_wrong_arguments(self):
        lot = Lot((Round(2, (), 1),))
        for call in (makes, plan):
            for trip in (Round(2, (), 1), Round(3, (), 1), Round(2, (), 41)):
                check_wrong(self, call, ("lot", "trip"), (lot, trip), ((NotLot, NO_LOTS), (NotRound, NO_ROUNDS)))

    def test_rounds_that_are_not_near(self):
        lot = Lot((Round(5, (), 1), Round(5, ((0, 1),), 0)))
        for lamps, end, size in (((), 41, 41), ((), -41, 41), (((41, 1),), 0, 41), (((-41, 1),), 0, 41),
                                 (((0, 1), (50, 1)), 60, 60), (((0, 1), (50, 1)), -49, 50), (((-40, 1), (40, 1)), 41, 41),
                                 (((-70, 1), (71, 1)), -72, 72), (((-BIG, 1), (3, 1)), 4, BIG), ((), -BIG, BIG)):
            for call in (makes, plan):
                for levels in (5, 7):
                    far = Round(levels, lamps, end)
                    with self.subTest(call=call.__name__, far=far.text):
                        self.assertEqual(outcome(call, lot, far), (TooFar, {"given": size}))
                        self.assertEqual(outcome(call, trip=far, lot=lot), (TooFar, {"given": size}))


class Doing(unittest.TestCase):
    def check(self, lot, pairs):
        expected = planned(lot, pairs)
        for found in (outcome(doing, lot, pairs), outcome(doing, plan=pairs, lot=lot)):
            with self.subTest(lot=lot.text, plan=pairs):
                if len(expected.lamps) > 400:
                    self.assertEqual(found, (TooMany, {"given": len(expected.lamps)}))
                else:
                    self.assertIs(type(found), Round)
                    self.assertEqual((found.levels, found.lamps, found.end), expected.parts())
        return len(expected.lamps) > 400

    def test_drawn(self):
        counts = [0, 0]
        for draw, lot in drawn_lots(6, 1):
            for many, most in ((1, 8), (3, 3), (6, 20), (4, 100)):
                pairs = tuple((draw.randrange(len(lot)), draw.randint(1, most) * draw.choice((-1, 1)))
                              for _ in range(many))
                counts[self.check(lot, pairs)] += 1
        self.assertGreater(min(counts), 20)

    def test_none(self):
        for levels in LEVELS:
            self.assertEqual(doing(Lot((Round(levels, ((0, 1),), 1),)), ()), Round(levels, (), 0))

    def test_one_pair(self):
        draw = random.Random(7)
        for levels in LEVELS:
            for ends in ((0,), (1,), (-1,), (8,), (-7, 4)):
                lot = drawn_lot(draw, levels, ends, 4, 24)
                for times in (1, -1, 2, levels, 57, -58, 399, 400, -401, 999, 1000, -1000):
                    self.check(lot, ((0, times),))
                    self.assertEqual(outcome(doing, lot, ((0, times),)), outcome(often, lot.rounds[0], times))

    def test_long_ones(self):
        draw = random.Random(8)
        for levels in LEVELS:
            for ends in ((0, 0), (1, -1, 0), (8, -7, 5, 3), (8, 4, -6)):
                lot = drawn_lot(draw, levels, ends, 5, 24)
                pairs = [(draw.randrange(len(ends)), draw.choice((-2, -1, 1, 2))) for _ in range(600)]
                self.check(lot, tuple(pairs))
                # There and back again, but for what is done in the middle.
                back = [(index, -times) for index, times in reversed(pairs)]
                self.check(lot, tuple(pairs + [(0, 5)] + back))
                self.assertEqual(doing(lot, tuple(pairs + back)), Round(levels, (), 0))

    def test_equal_neighbours_and_unmade_doings(self):
        lot = Lot((Round(3, ((0, 1), (2, 2)), 2), Round(3, ((-1, 1),), -3)))
        for pairs in (((0, 1), (0, 1)), ((0, 5), (0, -5)), ((0, 1000), (0, 1000)), ((1, 3), (0, -2), (0, 2), (1, -3)),
                      ((0, 1000), (1, 666), (1, 1)), ((0, -3), (1, -2))):
            self.check(lot, pairs)

    def test_many_lamps(self):
        one = Lot((Round(2, ((0, 1),), 1), Round(2, ((0, 1),), 0)))
        self.assertEqual(len(doing(one, ((0, 400),))), 400)
        self.assertEqual(outcome(doing, one, ((0, 400), (1, 1))), (TooMany, {"given": 401}))
        self.assertEqual(outcome(doing, one, ((0, 1000),) * 1000), (TooMany, {"given": 10 ** 6}))
        self.assertEqual(doing(one, ((0, 1000),) * 1000 + ((0, -1000),) * 1000), Round(2, (), 0))
        self.assertEqual(doing(one, ((0, 1000), (1, 1), (0, -1000))), Round(2, ((1000, 1),), 0))
        far = ((0, 1000),) * 500
        self.assertEqual(doing(one, far + ((1, 1),) + ((0, -1000),) * 500), Round(2, ((500000, 1),), 0))
        ends = Lot((Round(5, ((0, 1),), 3), Round(5, ((0, 1),), 7)))
        self.assertEqual(outcome(doing, ends, ((0, 1000), (1, -300), (1, -128))), outcome(
            doing, ends, ((0, 999), (0, 1), (1, -428))))
        self.check(ends, ((0, 1000), (1, -300), (1, -128)))

    def test_wrong_lots(self):
        for pairs in ((), None, ((0, 0),)):
            check_wrong(self, doing, ("lot", "plan"), (Lot((Round(2, (), 1),)), pairs), ((NotLot, NO_LOTS),))

    def check_wrong(self, pairs, index, lot):
        for found in (outcome(doing, lot, pairs), outcome(doing, plan=pairs, lot=lot)):
            with self.subTest(plan=pairs):
                self.assertEqual(found, (InvalidPlan, {"index": index}))

    def test_no_tuple(self):
        lot = Lot((Round(2, (), 1),))
        for value in ANYTHING + (0, 1, [(0, 1)], {0: 1}, "01", lot, Round(2, (), 0), iter(())):
            if not isinstance(value, tuple):
                self.check_wrong(value, None, lot)

    def test_no_pairs(self):
        lot = Lot((Round(2, ((0, 1),), 1), Round(2, (), -8), Round(2, (), 0)))
        for value in ANYTHING + (0, 1, (), (0,), (0, 1, 1), [0, 1], "01", ((0, 1),), {0: 1}, (1, (1,)), ([0], 1)):
            self.check_wrong((value,), 0, lot)
            self.check_wrong(((2, 1), value), 1, lot)
            self.check_wrong(((2, 1), (0, -1000), value, value, (5, 5)), 2, lot)

    def test_indexes_and_times(self):
        lot = Lot((Round(2, ((0, 1),), 1), Round(2, (), -8)))
        for index in ANYTHING + (-1, -2, 2, 3, BIG, -BIG, "0", (0,)):
            self.check_wrong(((index, 1),), 0, lot)
            self.check_wrong(((1, 1), (0, 1), (index, 1), (0, 0)), 2, lot)
        for times in ANYTHING + (0, 1001, -1001, BIG, -BIG, "1", (1,)):
            self.check_wrong(((0, times),), 0, lot)
            self.check_wrong(((1, 1000), (0, -1000), (0, times), (7, 1)), 2, lot)
        for index in range(4):
            for many in range(1, 5):
                short = Lot((Round(2, (), 1),) * many)
                if index < many:
                    self.assertEqual(doing(short, ((index, 3),)).end, 3)
                else:
                    self.check_wrong(((0, 1), (index, 3)), 1, short)
        # More lamps than are returned come behind all wrong pairs.
        self.check_wrong(((0, 1000), (0, 0)), 1, lot)


class Tidied(unittest.TestCase):
    def test_told(self):
        for pairs, expected in (((), ()), (((0, 1), (0, 2)), ((0, 3),)), (((0, 1), (0, -1)), ()),
                                (((1, 1), (0, 1), (0, -1), (1, 1)), ((1, 2),)),
                                (((1, 1), (0, 1), (0, -1), (1, -1), (2, 4)), ((2, 4),)),
                                (((0, 600), (0, 400)), ((0, 1000),)), (((0, 600), (0, 401)), ((0, 1000), (0, 1))),
                                (((0, -1000), (0, -1000)), ((0, -1000), (0, -1000))),
                                (((0, -2345), (1, 2345)), ((0, -1000), (0, -1000), (0, -345), (1, 1000), (1, 1000),
                                                           (1, 345)))):
            with self.subTest(pairs=pairs):
                self.assertEqual(tidied(pairs), expected)


if __name__ == "__main__":
    unittest.main()
