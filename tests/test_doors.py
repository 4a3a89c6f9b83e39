"""What all functions check: any values in the places of arguments, and which of several errors is raised."""

import itertools
import random
import unittest

from helpers import ANYTHING, NO_LOTS, NO_NUMBERS, NO_ROUNDS, outcome
from lamprounds.certificates import certify_alike, certify_made, certify_root, certify_same, certify_steps
from lamprounds.consoles import Console
from lamprounds.doing import level_after, often, order, then, undone
from lamprounds.errors import (InvalidChanges, InvalidIndex, InvalidLamps, InvalidLevels, InvalidName, InvalidNumber,
                               InvalidPlan, InvalidRounds, InvalidSteps, InvalidText, InvalidWish, InvalidWishes, NotLot,
                               NotRound, OtherLevels, TooFar, TooMany, UnknownName)
from lamprounds.forms import cosets, doing, form, makes, needless, plan, same, within
from lamprounds.libraries import Library
from lamprounds.likeness import alike, commute, is_alike, root
from lamprounds.limits import LEVELS
from lamprounds.lots import Lot
from lamprounds.mends import holds, mends
from lamprounds.rounds import Round
from lamprounds.streets import Street
from lamprounds.walks import least_walk, steps, walked

BIG = 10 ** 39 + 7
TRIP = Round(2, ((0, 1),), 1)
LOT = Lot((TRIP, Round(2, (), 3)))
# Objects of the package, beside what is in no place right.
OBJECTS = (Street(2), Library(), Console(), NotLot(1), LOT, TRIP)


def others_than(*right):
    return tuple(value for value in OBJECTS if not isinstance(value, right))


NO_LEVELS = ANYTHING + OBJECTS + (0, 1, 4, 6, -2, BIG, "2", (2,))
NO_TEXTS = ANYTHING[5:] + OBJECTS + (0, 1, None, "x", "")
# Kinds of arguments: a right value, the error, what it tells (a place in it, or the value), and values that are wrong.
KINDS = {
    "trip": (TRIP, NotRound, "given", NO_ROUNDS + others_than(Round)),
    "lot": (LOT, NotLot, "given", NO_LOTS + others_than(Lot)),
    "number": (3, InvalidNumber, "given", NO_NUMBERS + OBJECTS),
    "times above 0": (1, InvalidNumber, "given", NO_NUMBERS + OBJECTS + (0, -1, -BIG)),
    "levels": (2, InvalidLevels, "given", NO_LEVELS),
    "wish": (("step", 1), InvalidWish, "given", ANYTHING + OBJECTS + (0, ("step",), ("step", True), ["step", 1])),
    "name": ("a", InvalidName, "given", ANYTHING + OBJECTS + (0, "A", "a b", "a12345678")),
    "known": ("a", UnknownName, "given", ANYTHING + OBJECTS + (0, "A", "b", ("a",))),
    "at": (0, InvalidIndex, "given", ANYTHING + OBJECTS + (-1, 1, BIG, "0")),
    "steps": ("+>", InvalidSteps, None, tuple(value for value in ANYTHING + OBJECTS + (0,) if not isinstance(value, str))),
    "plan": (((0, 1),), InvalidPlan, None, ()),
    "wishes": ((("step", 1),), InvalidWishes, None, ()),
    "changes": (((0, ""),), InvalidChanges, None, ()),
    "lamps": (((0, 1),), InvalidLamps, None, ()),
    "rounds": ((TRIP,), InvalidRounds, None, ()),
}
NO_TUPLES = tuple(value for value in ANYTHING + OBJECTS + (0, 1) if not isinstance(value, tuple))
DOORS = (
    (Round, ("levels", "lamps", "end"), ("levels", "lamps", "number")),
    (then, ("trip", "second"), ("trip", "trip")),
    (undone, ("trip",), ("trip",)),
    (often, ("trip", "times"), ("trip", "number")),
    (level_after, ("trip", "times", "place"), ("trip", "number", "number")),
    (order, ("trip",), ("trip",)),
    (walked, ("levels", "steps"), ("levels", "steps")),
    (steps, ("trip",), ("trip",)),
    (least_walk, ("trip",), ("trip",)),
    (is_alike, ("trip", "second"), ("trip", "trip")),
    (alike, ("trip", "second"), ("trip", "trip")),
    (root, ("trip", "times"), ("trip", "times above 0")),
    (commute, ("trip", "second"), ("trip", "trip")),
    (Lot, ("rounds",), ("rounds",)),
    (LOT.changed, ("changes",), ("changes",)),
    (form, ("lot",), ("lot",)),
    (cosets, ("lot",), ("lot",)),
    (makes, ("lot", "trip"), ("lot", "trip")),
    (plan, ("lot", "trip"), ("lot", "trip")),
    (doing, ("lot", "plan"), ("lot", "plan")),
    (same, ("lot", "other"), ("lot", "lot")),
    (within, ("lot", "other"), ("lot", "lot")),
    (needless, ("lot",), ("lot",)),
    (holds, ("lot", "wish"), ("lot", "wish")),
    (mends, ("lot", "wishes", "changes"), ("lot", "wishes", "changes")),
    (Street, ("levels",), ("levels",)),
    (Street(2).do, ("trip",), ("trip",)),
    (certify_made, ("lot", "trip"), ("lot", "trip")),
    (certify_same, ("lot", "other"), ("lot", "lot")),
    (certify_alike, ("trip", "second"), ("trip", "trip")),
    (certify_root, ("trip", "times"), ("trip", "times above 0")),
    (certify_steps, ("trip",), ("trip",)),
)


def library_doors():
    """A library, and its doors."""
    library = Library()
    library["a"] = LOT
    library.wish("a", ("step", 1))
    return library, (
        (library.wish, ("name", "wish"), ("known", "wish")),
        (library.remove, ("name",), ("known",)),
        (library.lift, ("index",), ("at",)),
        (lambda name, lot: library.__setitem__(name, lot), ("name", "lot"), ("name", "lot")),
        (lambda name: library[name], ("name",), ("known",)),
    )


def wrong_values(kind):
    return KINDS[kind][3] or NO_TUPLES


class Doors(unittest.TestCase):
    def check(self, call, names, kinds, args, first):
        """Check that the first wrong argument is told, by position and by name."""
        _, error, attribute, _ = KINDS[kinds[first]]
        named = dict(reversed(list(zip(names, args))))
        for found in (outcome(call, *args), outcome(call, **named)):
            with self.subTest(call=call, args=args):
                self.assertIsInstance(found, tuple)
                self.assertIs(found[0], error)
                self.assertEqual(list(found[1]), [attribute or "index"])
                if attribute is None:
                    self.assertIsNone(found[1]["index"])
                else:
                    self.assertIs(found[1][attribute], args[first])

    def check_door(self, draw, call, names, kinds):
        right = [KINDS[kind][0] for kind in kinds]
        for at, kind in enumerate(kinds):
            for value in wrong_values(kind):
                # Alone, and with other wrong ones behind it.
                self.check(call, names, kinds, right[:at] + [value] + right[at + 1:], at)
                behind = [draw.choice(wrong_values(other)) for other in kinds[at + 1:]]
                self.check(call, names, kinds, right[:at] + [value] + behind, at)

    def test_any_values_alone_and_beside_others(self):
        draw = random.Random(1)
        for call, names, kinds in DOORS:
            self.check_door(draw, call, names, kinds)

    def test_libraries(self):
        draw = random.Random(2)
        library, doors = library_doors()
        for call, names, kinds in doors:
            self.check_door(draw, call, names, kinds)
        self.assertEqual((library.names, library.wishes, library.changes), (("a",), (("a", ("step", 1)),), 2))

    def test_texts(self):
        for read in (Round.read, Lot.read):
            for value in NO_TEXTS:
                if isinstance(value, str) and value.startswith("levels"):
                    continue
                for found in (outcome(read, value), outcome(read, text=value)):
                    with self.subTest(value=value):
                        self.assertIs(found[0], InvalidText)
                        self.assertIs(found[1]["given"], value)

    def test_right_ones_go_through(self):
        for call, names, kinds in DOORS:
            args = [KINDS[kind][0] for kind in kinds]
            found = outcome(call, *args)
            with self.subTest(call=call):
                self.assertFalse(isinstance(found, tuple) and found and isinstance(found[0], type), found)


class Order(unittest.TestCase):
    def test_other_levels_ahead_of_all_else(self):
        for first, second in itertools.permutations(LEVELS, 2):
            many = tuple((3 * place, 1) for place in range(400))
            for lamps, end in (((), 0), (((0, 1),), 41), (many, 1)):
                for more, other_end in (((), 0), (((41, 1),), BIG), (tuple((place + 1, 1) for place, _ in many), 0)):
                    trip, other = Round(first, lamps, end), Round(second, more, other_end)
                    for call in (then, is_alike, alike, commute, certify_alike):
                        with self.subTest(call=call.__name__, trip=first, second=second):
                            self.assertEqual(outcome(call, trip, other), (OtherLevels, {"given": second}))
                            self.assertEqual(outcome(call, second=other, trip=trip), (OtherLevels, {"given": second}))
                    street = Street(first)
                    self.assertEqual(outcome(street.do, other), (OtherLevels, {"given": second}))
                    self.assertEqual(len(street), 0)

    def test_too_far_with_the_first_one_that_is_not_near(self):
        near = Round(2, ((-40, 1), (40, 1)), -40)
        far = [(Round(2, lamps, end), size) for lamps, end, size in (
            ((), 41, 41), ((), -42, 42), (((-43, 1), (0, 1)), 42, 43), (((-1, 1), (50, 1)), 40, 50),
            (((-51, 1), (50, 1)), -40, 51), (((BIG, 1),), -BIG - 1, BIG + 1))]
        lot = Lot((Round(2, (), 1),))
        for trip, size in far:
            for call in (alike, certify_alike):
                self.assertEqual(outcome(call, trip, near), (TooFar, {"given": size}))
                self.assertEqual(outcome(call, near, trip), (TooFar, {"given": size}))
                for second, _ in far:
                    self.assertEqual(outcome(call, trip, second), (TooFar, {"given": size}))
            for call in (makes, plan, certify_made):
                self.assertEqual(outcome(call, lot, trip), (TooFar, {"given": size}))
                self.assertEqual(outcome(call, trip=trip, lot=lot), (TooFar, {"given": size}))
        self.assertEqual((makes(lot, near), plan(lot, near), alike(near, near)), (False, None, Round(2, (), 0)))

    def test_too_many_behind_all(self):
        many = Round(2, tuple((2 * place, 1) for place in range(400)), 1)
        for call, args, number in ((then, (many, many), 800), (often, (many, 2), 800),
                                   (least_walk, (Round(2, (), 4001),), 4001)):
            self.assertEqual(outcome(call, *args), (TooMany, {"given": number}))
        self.assertEqual(outcome(then, many, None), (NotRound, {"given": None}))
        self.assertEqual(outcome(doing, Lot((Round(2, ((0, 1),), 1),)), ((0, 1000), None)), (InvalidPlan, {"index": 1}))


if __name__ == "__main__":
    unittest.main()
