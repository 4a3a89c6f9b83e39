"""Rounds done one behind another, undone and done any number of times, against sums made here."""

import random
import unittest

from helpers import NO_NUMBERS, NO_ROUNDS, Model, check_wrong, drawn, drawn_model, model, outcome
from lamprounds.doing import level_after, often, order, then, undone
from lamprounds.errors import InvalidNumber, NotRound, OtherLevels, TooMany
from lamprounds.limits import LEVELS
from lamprounds.rounds import Round

BIG = 10 ** 39 + 7
# Sizes of places and ends: small ones, few places (so that lamps meet), and those of 40 digits.
SIZES = ((9, 4), (2, 1), (30, 0), (BIG, BIG), (6, BIG), (BIG, 3))
TIMES = (0, 1, -1, 2, -2, 3, 7, -7, 14, 35, -50, BIG, -BIG, 6 * BIG, -7 * BIG, 10 ** 40, 10 ** 40 - 1, -10 ** 40)


def draws(seed, many):
    draw = random.Random(seed)
    for levels in LEVELS:
        for size, end in SIZES:
            for _ in range(many):
                yield draw, levels, size, end


def level_at(trip, times, place):
    """The level of one lamp: the sum over the doings, told by their numbers, that begin so that they press it."""
    level = 0
    for at, more in trip.lamps:
        if trip.end == 0:
            level += times * more if at == place else 0
        elif (place - at) % trip.end == 0:
            number = (place - at) // trip.end
            level += more * ((0 <= number < times) - (times <= number < 0))
    return level % trip.levels


class Case(unittest.TestCase):
    def check(self, found, expected):
        self.assertIs(type(found), Round)
        self.assertEqual((found.levels, found.lamps, found.end), expected.parts())
        self.assertEqual(Round.read(found.text), found)


class Then(Case):
    def test_drawn(self):
        for draw, levels, size, end in draws(1, 8):
            one, two = drawn(draw, levels, 7, size, end), drawn(draw, levels, 7, size, end)
            with self.subTest(one=one.text, two=two.text):
                expected = model(one).then(model(two))
                self.check(then(one, two), expected)
                self.check(then(second=two, trip=one), expected)

    def test_lamps_that_meet_and_go_out(self):
        self.assertEqual(then(Round(2, ((1, 1),), 1), Round(2, ((0, 1),), 0)), Round(2, (), 1))
        self.assertEqual(then(Round(3, ((1, 2),), -1), Round(3, ((2, 2), (3, 1)), 5)), Round(3, ((1, 1), (2, 1)), 4))
        self.assertEqual(then(Round(7, ((BIG, 3),), BIG), Round(7, ((0, 4),), -BIG)), Round(7, (), 0))

    def test_the_still_round(self):
        for draw, levels, size, end in draws(2, 3):
            one, still = drawn(draw, levels, 7, size, end), Round(levels, (), 0)
            with self.subTest(one=one.text):
                self.assertEqual(then(one, still), one)
                self.assertEqual(then(still, one), one)

    def test_three_rounds(self):
        for draw, levels, size, end in draws(3, 5):
            one, two, three = [drawn(draw, levels, 5, size, end) for _ in range(3)]
            with self.subTest(one=one.text, two=two.text, three=three.text):
                self.assertEqual(then(then(one, two), three), then(one, then(two, three)))

    def test_rounds_stay_as_they_were(self):
        one, two = Round(3, ((0, 1), (4, 2)), 1), Round(3, ((-1, 2),), 5)
        then(one, two)
        self.assertEqual((one.text, two.text), ("levels 3 end 1 lamps 0:1 4:2", "levels 3 end 5 lamps -1:2"))

    def test_many_lamps(self):
        half = Round(2, tuple((place, 1) for place in range(200)), 200)
        more = Round(2, tuple((place, 1) for place in range(201)), 0)
        self.assertEqual(then(half, half), Round(2, tuple((place, 1) for place in range(400)), 400))
        self.assertEqual(outcome(then, half, more), (TooMany, {"given": 401}))
        self.assertEqual(outcome(then, second=more, trip=half), (TooMany, {"given": 401}))
        whole = then(half, half)
        self.assertEqual(outcome(then, whole, whole), (TooMany, {"given": 800}))
        self.assertEqual(then(whole, undone(whole)), Round(2, (), 0))
        self.assertEqual(len(then(whole, Round(2, ((-400, 1), (-1, 1)), 0))), 398)

    def test_wrong_arguments(self):
        check_wrong(self, then, ("trip", "second"), (Round(2, (), 0), Round(2, (), 0)),
                    ((NotRound, NO_ROUNDS), (NotRound, NO_ROUNDS)))

    def test_unlike_levels(self):
        for first in LEVELS:
            for second in LEVELS:
                found = outcome(then, Round(first, ((0, 1),), 1), Round(second, (), 0))
                if first != second:
                    self.assertEqual(found, (OtherLevels, {"given": second}))
        full = tuple((place, 1) for place in range(400))
        self.assertEqual(outcome(then, Round(3, full, 400), Round(5, full, 0)), (OtherLevels, {"given": 5}))


class Undone(Case):
    def test_drawn(self):
        for draw, levels, size, end in draws(4, 8):
            one, still = drawn(draw, levels, 7, size, end), Round(levels, (), 0)
            with self.subTest(one=one.text):
                self.check(undone(one), model(one).undone())
                self.check(undone(trip=one), model(one).undone())
                self.assertEqual(then(one, undone(one)), still)
                self.assertEqual(then(undone(one), one), still)
                self.assertEqual(undone(undone(one)), one)

    def test_two_rounds_undone(self):
        for draw, levels, size, end in draws(5, 3):
            one, two = drawn(draw, levels, 5, size, end), drawn(draw, levels, 5, size, end)
            self.assertEqual(undone(then(one, two)), then(undone(two), undone(one)))

    def test_four_hundred_lamps(self):
        full = Round(5, tuple((3 * place - BIG, place % 4 + 1) for place in range(400)), -BIG)
        self.check(undone(full), model(full).undone())

    def test_wrong_arguments(self):
        check_wrong(self, undone, ("trip",), (Round(2, (), 0),), ((NotRound, NO_ROUNDS),))


class Often(Case):
    def test_small_numbers(self):
        for draw, levels, size, end in draws(6, 4):
            one = drawn(draw, levels, 6, size, end)
            for times in range(-5, 7):
                with self.subTest(one=one.text, times=times):
                    expected = model(one).often(times)
                    self.check(often(one, times), expected)
                    self.check(often(times=times, trip=one), expected)

    def test_end_0(self):
        for draw, levels, size, _ in draws(7, 2):
            one = drawn(draw, levels, 6, size, 0)
            for times in TIMES:
                lamps = {place: level * times for place, level in one.lamps}
                with self.subTest(one=one.text, times=times):
                    self.check(often(one, times), Model(levels, lamps, 0))

    def test_lamps_that_go_out_along_the_way(self):
        # u less u moved by the end, done n times, is u less u moved by n ends: all others go out.
        for draw, levels, size, end in draws(8, 3):
            part = drawn_model(draw, levels, 5, size, 0)
            by = draw.randint(1, end or 5) * draw.choice((1, -1))
            one = part.then(Model(levels, {place + by: -level for place, level in part.lamps.items()}, by))
            for times in TIMES:
                ends = {place + times * by: -level for place, level in part.lamps.items()}
                expected = part.then(Model(levels, ends, times * by))
                with self.subTest(one=one.parts(), times=times):
                    self.check(often(one.round(), times), expected)

    def test_lamps_that_go_out_in_the_end(self):
        # Three lamps on a line go out where three doings meet, and only at both ends stays something.
        trip = Round(3, ((0, 1), (1, 1), (2, 1)), 1)
        self.assertEqual(often(trip, 300).lamps, ((0, 1), (1, 2), (300, 2), (301, 1)))
        self.assertEqual(often(trip, 10 ** 30).lamps, ((0, 1), (1, 2), (10 ** 30, 2), (10 ** 30 + 1, 1)))
        self.assertEqual(often(trip, -10 ** 30).lamps, ((-10 ** 30, 2), (1 - 10 ** 30, 1), (0, 1), (1, 2)))

    def test_many_lamps(self):
        for levels in LEVELS:
            for end in (1, -1, 4, -BIG, 10 ** 39):
                one = Round(levels, ((5, levels - 1),), end)
                for times in (400, -400):
                    self.check(often(one, times), model(one).often(times))
                for times in (401, -401, 10 ** 6, BIG, -BIG):
                    expected = (TooMany, {"given": abs(times)})
                    self.assertEqual(outcome(often, one, times), expected)
                    self.assertEqual(outcome(often, times=times, trip=one), expected)

    def test_the_number_of_lamps_is_told(self):
        draw = random.Random(9)
        for levels in LEVELS:
            for _ in range(12):
                one = drawn_model(draw, levels, 5, 6, 3)
                for times in (150, 299, 400, -301, -377):
                    expected = one.often(times)
                    found = outcome(often, one.round(), times)
                    with self.subTest(one=one.parts(), times=times):
                        if len(expected.lamps) > 400:
                            self.assertEqual(found, (TooMany, {"given": len(expected.lamps)}))
                        else:
                            self.check(found, expected)

    def test_the_number_of_lamps_that_cannot_be_gone_through(self):
        self.assertEqual(outcome(often, Round(2, ((0, 1), (1, 1)), 2), BIG), (TooMany, {"given": 2 * BIG}))
        both_ends = tuple((place, 1) for place in [*range(10), *range(BIG, BIG + 10)])
        self.assertEqual(often(Round(2, ((0, 1), (10, 1)), 1), BIG), Round(2, both_ends, BIG))
        self.assertEqual(outcome(often, Round(3, ((0, 1), (10 ** 30, 2)), 1), BIG), (TooMany, {"given": 2 * 10 ** 30}))
        self.assertEqual(outcome(often, Round(3, ((0, 1), (9, 1)), 1), -BIG), (TooMany, {"given": BIG + 9}))

    def test_two_numbers_one_behind_the_other(self):
        trip = Round(5, ((-1, 2), (0, 1), (2, 2)), 2)
        for first in (-40, -3, 0, 1, 25):
            for second in (-41, -2, 0, 3, 30):
                self.assertEqual(then(often(trip, first), often(trip, second)), often(trip, first + second))

    def test_wrong_arguments(self):
        check_wrong(self, often, ("trip", "times"), (Round(2, ((0, 1),), 1), 3),
                    ((NotRound, NO_ROUNDS), (InvalidNumber, NO_NUMBERS)))


class LevelAfter(Case):
    def test_places_of_lamps_and_others(self):
        for draw, levels, size, end in draws(10, 1):
            one = drawn(draw, levels, 5, size, end)
            for times in range(-5, 7):
                lamps = model(one).often(times).lamps
                near = {place + by for place in lamps for by in (-1, 0, 1)} | {0, 1, -BIG, draw.randint(-size, size)}
                for place in near:
                    with self.subTest(one=one.text, times=times, place=place):
                        self.assertEqual(level_after(one, times, place), lamps.get(place, 0))

    def test_numbers_of_forty_digits(self):
        for draw, levels, size, end in draws(11, 1):
            one = drawn(draw, levels, 5, size, end)
            for times in TIMES:
                for place, _ in one.lamps + ((0, 1),):
                    for number in (0, 1, times - 1, times, times + 1, times // 2, -1):
                        for by in (-1, 0, 1):
                            at = place + number * one.end + by
                            with self.subTest(one=one.text, times=times, at=at):
                                expected = level_at(one, times, at)
                                self.assertEqual(level_after(one, times, at), expected)
                                self.assertEqual(level_after(place=at, times=times, trip=one), expected)

    def test_ends_of_the_way(self):
        one = Round(7, ((0, 3),), 2)
        self.assertEqual([level_after(one, 10 ** 30, place) for place in (-2, 0, 1, 2, 10 ** 30)], [0, 3, 0, 3, 3])
        self.assertEqual([level_after(one, 10 ** 30, 2 * 10 ** 30 + by) for by in (-3, -2, -1, 0)], [0, 3, 0, 0])
        self.assertEqual([level_after(one, -10 ** 30, place) for place in (-3, -2, -1, 0)], [0, 4, 0, 0])
        self.assertEqual([level_after(one, -10 ** 30, by - 2 * 10 ** 30) for by in (-2, -1, 0, 1)], [0, 0, 4, 0])
        self.assertEqual([level_after(one, 0, place) for place in (-2, 0, 2)], [0, 0, 0])

    def test_as_often_tells(self):
        one = Round(2, ((-3, 1), (0, 1), (4, 1)), -3)
        for times in (-60, 90):
            lamps = dict(often(one, times).lamps)
            for place in range(-300, 300):
                self.assertEqual(level_after(one, times, place), lamps.get(place, 0))

    def test_more_lamps_than_are_returned(self):
        self.assertEqual(level_after(Round(5, ((0, 1), (7, 3)), 7), 10 ** 39, 7 * 10 ** 30), 4)

    def test_wrong_arguments(self):
        check_wrong(self, level_after, ("trip", "times", "place"), (Round(2, ((0, 1),), 1), 3, 0),
                    ((NotRound, NO_ROUNDS), (InvalidNumber, NO_NUMBERS), (InvalidNumber, NO_NUMBERS)))


class Order(Case):
    def test_orders(self):
        for draw, levels, size, _ in draws(12, 3):
            trip = drawn(draw, levels, 6, size, 0)
            with self.subTest(trip=trip.text):
                numbers = [times for times in range(1, 9) if not model(trip).often(times).lamps]
                self.assertEqual(order(trip), numbers[0])
                self.assertEqual(order(trip=trip), levels if trip.lamps else 1)

    def test_still_and_never_still(self):
        for levels in LEVELS:
            self.assertEqual(order(Round(levels, (), 0)), 1)
            self.assertEqual(order(Round(levels, ((BIG, levels - 1),), 0)), levels)
            for end in (1, -1, 12, BIG, -BIG):
                self.assertIsNone(order(Round(levels, (), end)))
                self.assertIsNone(order(Round(levels, ((0, 1),), end)))

    def test_wrong_arguments(self):
        check_wrong(self, order, ("trip",), (Round(2, (), 0),), ((NotRound, NO_ROUNDS),))


if __name__ == "__main__":
    unittest.main()
