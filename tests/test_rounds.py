"""Rounds: which arguments make one, what it tells of itself, and which rounds are equal."""

import copy
import unittest

from helpers import EqualsAll, FailsToCompare, outcome
from lamprounds.errors import InvalidLamps, InvalidLevels, InvalidNumber
from lamprounds.rounds import Round

BIG = 10 ** 39 + 7
NO_INTEGERS = (True, False, None, "1", "", b"1", (), (1,), [], [1], {}, {1: 1}, object(), int, Round(2, (), 0),
               EqualsAll())
FOUR_HUNDRED = tuple((place, 1) for place in range(400))


class Valid(unittest.TestCase):
    def check(self, levels, lamps, end):
        for trip in (Round(levels, lamps, end), Round(levels=levels, lamps=lamps, end=end),
                     Round(end=end, levels=levels, lamps=lamps), Round(levels, lamps, end=end)):
            self.assertIs(type(trip), Round)
            self.assertIs(trip.levels, levels)
            self.assertIs(trip.lamps, lamps)
            self.assertIs(trip.end, end)
            self.assertEqual(len(trip), len(lamps))
            self.assertEqual(repr(trip), f"Round of {len(lamps)} lamps")
            self.assertIs(bool(trip), True)

    def test_all_levels(self):
        for levels in (2, 3, 5, 7):
            with self.subTest(levels=levels):
                self.check(levels, (), 0)
                for level in range(1, levels):
                    self.check(levels, ((0, level),), 1)
                self.check(levels, tuple((place, place % (levels - 1) + 1) for place in range(-9, 9)), -4)

    def test_below_zero_and_large(self):
        self.check(2, ((-5, 1), (-4, 1), (-1, 1), (0, 1), (1, 1)), -5)
        self.check(7, ((-BIG, 6), (-BIG + 1, 1), (0, 3), (BIG - 1, 2), (BIG, 4)), -BIG)
        self.check(5, (), BIG)
        self.check(3, ((10 ** 99, 2),), 10 ** 99)

    def test_four_hundred_lamps(self):
        self.check(2, FOUR_HUNDRED, 0)
        self.check(7, tuple((3 * place - BIG, place % 6 + 1) for place in range(400)), BIG)


class WrongLevels(unittest.TestCase):
    def test_all_but_the_four(self):
        for levels in (0, 1, 4, 6, 8, 9, -2, -3, 11, BIG, "3", b"\x02", (3,), [2], {2: 2}, {2}) + NO_INTEGERS:
            with self.subTest(levels=levels):
                found, told = outcome(Round, levels, (), 0)
                self.assertIs(found, InvalidLevels)
                self.assertEqual(list(told), ["given"])
                self.assertIs(told["given"], levels)

    def test_by_name(self):
        self.assertEqual(outcome(Round, end=0, lamps=(), levels=4), (InvalidLevels, {"given": 4}))


class WrongLamps(unittest.TestCase):
    def check(self, levels, lamps, index):
        with self.subTest(levels=levels, lamps=lamps):
            expected = (InvalidLamps, {"index": index})
            self.assertEqual(outcome(Round, levels, lamps, 0), expected)
            self.assertEqual(outcome(Round, end=0, lamps=lamps, levels=levels), expected)

    def test_no_tuple(self):
        for lamps in (None, True, 0, 1, "", "dark", b"", [], [(0, 1)], {}, {0: 1}, set(), object(),
                      iter(()), range(0), Round(2, (), 0), EqualsAll(), FailsToCompare()):
            self.check(2, lamps, None)

    def test_elements_that_are_no_pairs(self):
        for lamp in (None, 1, "ab", "0:1", b"ab", (), (0,), (0, 1, 1), [0, 1], [], {0: 1, 1: 1}, {0, 1}, ((0, 1),),
                     Round(2, ((0, 1), (1, 1)), 0), EqualsAll(), FailsToCompare()):
            self.check(3, (lamp,), 0)
            self.check(3, ((-2, 1), (-1, 1), lamp, (5, 1)), 2)

    def test_places_that_are_no_integers(self):
        for place in NO_INTEGERS + (FailsToCompare(),):
            self.check(3, ((place, 1),), 0)
            self.check(3, ((-1, 1), (place, 1)), 1)

    def test_true_and_false_as_places(self):
        self.check(2, ((True, 1),), 0)
        self.check(2, ((-1, 1), (False, 1), (True, 1)), 1)
        self.check(2, ((0, 1), (True, 1)), 1)

    def test_levels_that_are_no_integers(self):
        for level in NO_INTEGERS + (FailsToCompare(),):
            self.check(3, ((0, level),), 0)
            self.check(3, ((-1, 1), (0, level)), 1)

    def test_levels_out_of_range(self):
        for levels in (2, 3, 5, 7):
            for level in (0, -1, -levels, 1 - levels, levels, levels + 1, 2 * levels + 1, BIG, -BIG):
                self.check(levels, ((0, level),), 0)
                self.check(levels, ((-3, 1), (0, level), (1, 1)), 1)

    def test_places_not_ascending(self):
        self.check(2, ((0, 1), (0, 1)), 1)
        self.check(3, ((0, 1), (0, 2)), 1)
        self.check(2, ((0, 1), (-1, 1)), 1)
        self.check(2, ((-2, 1), (5, 1), (4, 1), (3, 1)), 2)
        self.check(2, ((-2, 1), (5, 1), (6, 1), (6, 1)), 3)
        self.check(2, ((BIG, 1), (BIG, 1)), 1)
        self.check(2, ((-BIG, 1), (-BIG - 1, 1)), 1)

    def test_too_many(self):
        self.check(2, FOUR_HUNDRED + ((400, 1),), 400)
        self.check(2, FOUR_HUNDRED + ((400, 1), (401, 1)), 400)
        self.check(2, FOUR_HUNDRED + (None,), 400)
        self.check(2, FOUR_HUNDRED + ((400, 1), None), 400)
        self.check(2, FOUR_HUNDRED + ((0, 1),), 400)
        self.check(2, tuple((place, 1) for place in range(5000)), 400)

    def test_first_wrong_lamp_counts(self):
        self.check(2, ((0, 1), (0, 1), None), 1)
        self.check(2, ((0, 2), (0, 1), None), 0)
        self.check(2, (None, (0, 1), (0, 1)), 0)
        self.check(3, ((0, 1), (1, 3), (1, 1)), 1)
        self.check(3, ((0, 1), (1, 2), (1, 3), None), 2)
        self.check(2, FOUR_HUNDRED[:399] + ((0, 1), (400, 1)), 399)
        self.check(2, (True,) + FOUR_HUNDRED, 0)

    def test_a_level_depends_on_the_levels(self):
        self.assertEqual(Round(5, ((0, 4),), 0).lamps, ((0, 4),))
        self.check(3, ((0, 4),), 0)
        self.check(2, ((0, 2),), 0)


class WrongEnd(unittest.TestCase):
    def test_no_integer(self):
        for end in NO_INTEGERS + (FailsToCompare(),):
            with self.subTest(end=end):
                for found, told in (outcome(Round, 2, (), end), outcome(Round, end=end, lamps=(), levels=2)):
                    self.assertIs(found, InvalidNumber)
                    self.assertEqual(list(told), ["given"])
                    self.assertIs(told["given"], end)


class Order(unittest.TestCase):
    def test_the_first_wrong_argument_counts(self):
        self.assertEqual(outcome(Round, 4, None, None), (InvalidLevels, {"given": 4}))
        self.assertEqual(outcome(Round, True, ((0, 9),), 0), (InvalidLevels, {"given": True}))
        self.assertEqual(outcome(Round, end="x", lamps=[], levels=None), (InvalidLevels, {"given": None}))
        self.assertEqual(outcome(Round, 4, (), True), (InvalidLevels, {"given": 4}))
        self.assertEqual(outcome(Round, 2, [], True), (InvalidLamps, {"index": None}))
        self.assertEqual(outcome(Round, 2, ((0, 1), (1, 2)), "end"), (InvalidLamps, {"index": 1}))
        self.assertEqual(outcome(Round, 2, FOUR_HUNDRED + (None,), None), (InvalidLamps, {"index": 400}))
        self.assertEqual(outcome(Round, 2, ((0, 1),), None), (InvalidNumber, {"given": None}))


class Unchanged(unittest.TestCase):
    def test_passed_values_stay(self):
        for args in ((2, [(0, 1)], 0), (2, ([0, 1],), 0), ([2], (), 0), (2, (), [0, [1]]), (2, (), {"a": [1]})):
            before = copy.deepcopy(args)
            with self.subTest(args=args):
                outcome(Round, *args)
                self.assertEqual(args, before)

    def test_given_is_the_passed_value_itself(self):
        end = [1, [2]]
        self.assertIs(outcome(Round, 2, (), end)[1]["given"], end)
        levels = {"a": 1}
        self.assertIs(outcome(Round, levels, (), end)[1]["given"], levels)

    def test_parts_cannot_be_set(self):
        trip = Round(3, ((0, 1),), 2)
        for name, value in (("levels", 5), ("lamps", ()), ("end", 0), ("text", "")):
            with self.subTest(name=name):
                self.assertRaises(AttributeError, setattr, trip, name, value)
        self.assertEqual((trip.levels, trip.lamps, trip.end), (3, ((0, 1),), 2))
        self.assertEqual(trip.text, "levels 3 end 2 lamps 0:1")

    def test_equal_arguments_give_equal_rounds(self):
        for args in ((2, (), 0), (7, ((-BIG, 6), (4, 1)), BIG), (2, FOUR_HUNDRED, -1)):
            self.assertEqual(Round(*args), Round(*copy.deepcopy(args)))
            self.assertEqual(Round(*args).text, Round(*args).text)


ROUNDS = ((2, (), 0), (3, (), 0), (5, (), 0), (7, (), 0), (2, (), 1), (2, (), -1), (2, (), BIG), (2, ((0, 1),), 0),
          (3, ((0, 1),), 0), (3, ((0, 2),), 0), (3, ((1, 2),), 0), (3, ((-1, 2),), 0), (3, ((-1, 2),), 5),
          (3, ((0, 1), (1, 2)), 0), (3, ((0, 1), (2, 2)), 0), (3, ((0, 1), (1, 1)), 0), (3, ((BIG, 1),), 0))
FOREIGN = (None, True, False, 0, 1, 2, "", "levels 2 end 0 dark", b"levels 2 end 0 dark", (), (2, (), 0), [2, (), 0],
           [], {}, {"levels": 2, "lamps": (), "end": 0}, object(), Round, int, ValueError("x"))


class Equality(unittest.TestCase):
    def test_equal_exactly_if_the_texts_are(self):
        for first in ROUNDS:
            for second in ROUNDS:
                one, other = Round(*first), Round(*second)
                with self.subTest(one=one.text, other=other.text):
                    self.assertIs(one == other, one.text == other.text)
                    self.assertIs(one != other, one.text != other.text)
                    self.assertIs(one == other, first == second)

    def test_never_equal_to_another_class(self):
        for trip in (Round(*args) for args in ROUNDS):
            for value in FOREIGN + (trip.text, (trip.levels, trip.lamps, trip.end), trip.lamps, trip.end):
                with self.subTest(trip=trip.text, value=value):
                    self.assertIs(trip == value, False)
                    self.assertIs(value == trip, False)
                    self.assertIs(trip != value, True)
                    self.assertIs(value != trip, True)

    def test_what_the_other_value_says_does_not_count(self):
        trip = Round(2, (), 0)
        for value in (EqualsAll(), FailsToCompare()):
            self.assertIs(trip == value, False)
            self.assertIs(trip != value, True)

    def test_in_a_tuple_and_a_list(self):
        rounds = [Round(*args) for args in ROUNDS]
        for index, args in enumerate(ROUNDS):
            others = rounds[:index] + rounds[index + 1:]
            with self.subTest(args=args):
                self.assertIn(Round(*args), rounds)
                self.assertIn(Round(*args), tuple(rounds))
                self.assertNotIn(Round(*args), others)
                self.assertNotIn(Round(*args), tuple(others))
                self.assertEqual(rounds.index(Round(*args)), index)
                self.assertNotIn(Round(*args), FOREIGN)
        for value in FOREIGN:
            self.assertNotIn(value, rounds)


if __name__ == "__main__":
    unittest.main()
