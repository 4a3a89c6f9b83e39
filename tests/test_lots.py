"""Lots: which rounds make one, what it tells of itself, its text, and which lots are equal."""

import random
import unittest

from helpers import ANYTHING, NO_ROUNDS, EqualsAll, FailsToCompare, outcome
from lamprounds.errors import InvalidRounds, InvalidText
from lamprounds.limits import LEVELS
from lamprounds.lots import Lot
from lamprounds.rounds import Round

BIG = 10 ** 39 + 7
NO_TUPLES = tuple(value for value in ANYTHING if not isinstance(value, tuple)) + (
    0, 1, [Round(2, (), 0)], {Round: 1}, "levels 2 end 0 dark", Round(2, (), 0), iter(()), range(2))


def drawn_rounds(draw):
    levels = draw.choice(LEVELS)
    rounds = []
    for _ in range(draw.randint(1, 4)):
        lamps = {draw.randint(-24, 24): draw.randrange(1, levels) for _ in range(draw.randint(0, 6))}
        rounds.append(Round(levels, tuple(sorted(lamps.items())), draw.randint(-8, 8)))
    return tuple(rounds)


class Valid(unittest.TestCase):
    def check(self, rounds):
        text = "\n".join([trip.text for trip in rounds])
        with self.subTest(text=text):
            for lot in (Lot(rounds), Lot(rounds=rounds)):
                self.assertIs(type(lot), Lot)
                self.assertIs(lot.rounds, rounds)
                self.assertEqual(lot.levels, rounds[0].levels)
                self.assertEqual(lot.text, text)
                self.assertIs(type(lot.text), str)
                self.assertEqual(str(lot), text)
                self.assertEqual(f"{lot}", text)
                self.assertEqual(len(lot), len(rounds))
                self.assertEqual(repr(lot), f"Lot of {len(rounds)} rounds")
                self.assertIs(bool(lot), True)
            for lot in (Lot.read(text), Lot.read(text=text), Lot(rounds).read(text)):
                self.assertIs(type(lot), Lot)
                self.assertEqual(lot, Lot(rounds))
                self.assertIs(type(lot.rounds), tuple)
                self.assertEqual(lot.rounds, rounds)
                self.assertEqual((lot.levels, lot.text), (rounds[0].levels, text))

    def test_drawn(self):
        draw = random.Random(1)
        for _ in range(200):
            self.check(drawn_rounds(draw))

    def test_bounds(self):
        for levels in LEVELS:
            for end in (-8, 0, 8):
                self.check((Round(levels, (), end),))
                self.check((Round(levels, ((-24, 1), (24, levels - 1)), end), Round(levels, ((24, 1),), -end)))
            full = Round(levels, tuple((place, levels - 1) for place in range(-24, 25)), -8)
            self.check((full, full, full, full))

    def test_equal_and_still_rounds(self):
        still = Round(3, (), 0)
        self.check((still,))
        self.check((still, still))
        self.check((Round(3, ((0, 1),), 0), still, Round(3, ((0, 1),), 0), Round(3, ((0, 1),), 0)))


class WrongRounds(unittest.TestCase):
    def check(self, rounds, index):
        with self.subTest(rounds=rounds):
            self.assertEqual(outcome(Lot, rounds), (InvalidRounds, {"index": index}))
            self.assertEqual(outcome(Lot, rounds=rounds), (InvalidRounds, {"index": index}))

    def test_no_tuple_and_none(self):
        self.check((), None)
        for value in NO_TUPLES:
            self.check(value, None)

    def test_elements_that_are_no_rounds(self):
        one, two = Round(2, ((0, 1),), 1), Round(2, (), -8)
        for value in NO_ROUNDS + (Lot((one,)), (one,), [one], one.text):
            if not isinstance(value, Round):
                self.check((value,), 0)
                self.check((value, one), 0)
                self.check((one, value), 1)
                self.check((one, two, value, value), 2)
                self.check((one, two, one, value), 3)
                self.check((one, two, one, two, value), 4)

    def test_other_levels(self):
        for levels in LEVELS:
            for other in LEVELS:
                if levels != other:
                    one, two = Round(levels, (), 3), Round(other, (), 3)
                    self.check((one, two), 1)
                    self.check((one, two, two), 1)
                    self.check((one, one, one, two), 3)
                    self.check((one, one, two, None), 2)

    def test_bounds(self):
        one = Round(7, ((3, 5),), -2)
        for lamps, end in ((((25, 1),), 0), (((-25, 1),), 0), (((-25, 1), (0, 1)), 0), (((0, 1), (25, 6)), 0), ((), 9),
                           ((), -9), (((0, 1),), BIG), (((0, 1),), -BIG), (((BIG, 1),), 0), (((-BIG, 1), (2, 3)), 0),
                           (((-BIG, 1), (25, 3)), 10), (((24, 1),), 9)):
            wrong = Round(7, lamps, end)
            self.check((wrong,), 0)
            self.check((wrong, wrong), 0)
            self.check((one, wrong), 1)
            self.check((one, one, wrong, one), 2)
            self.check((one, one, one, wrong, one), 3)
            self.check((one, one, one, one, wrong), 4)
            self.check((wrong, Round(5, (), 0)), 0)
            self.check((one, Round(5, (), 0), wrong), 1)

    def test_the_fifth(self):
        one = Round(2, ((0, 1),), 1)
        self.check((one,) * 5, 4)
        self.check((one,) * 9, 4)
        self.check((one,) * 4 + (None, one), 4)
        self.check((one, Round(3, (), 0)) + (one,) * 4, 1)


class WrongTexts(unittest.TestCase):
    def check(self, value):
        with self.subTest(value=value):
            for found, told in (outcome(Lot.read, value), outcome(Lot.read, text=value)):
                self.assertIs(found, InvalidText)
                self.assertEqual(list(told), ["given"])
                self.assertIs(told["given"], value)

    def test_other_strings(self):
        one, two = "levels 3 end 1 lamps 0:1 2:2", "levels 3 end -8 dark"
        for text in ("", "\n", " ", one + "\n", "\n" + one, one + "\n\n" + two, one + "\n" + two + "\n", one + " ",
                     one + " \n" + two, one + "\n " + two, one + "\n\n", one + " " + two, one + two, one + "\r\n" + two,
                     one + "\r" + two, one + "\x0b" + two, one + "\x0c" + two, one + "\x1e" + two, one + "\x85" + two,
                     one + "\u2028" + two, one + "\nlevels 2 end 0 dark", one + "\nlevels 3 end 9 dark",
                     one + "\nlevels 3 end -9 dark", one + "\nlevels 3 end 0 lamps 25:1", "levels 4 end 0 dark",
                     "levels 3 end 0 lamps -25:1\n" + one, "levels 3 end 0 lamps 0:3", "levels 3 end 0 lamps 1:1 0:1",
                     "\n".join([one] * 5), "\n".join([one, two] * 30), "dark", "Lot of 1 rounds",
                     "levels 3 end 01 dark", f"levels 3 end {BIG} dark", f"levels 3 end 0 lamps {-BIG}:1",
                     one + "\\n" + two):
            self.check(text)

    def test_no_strings(self):
        one = Round(2, (), 0)
        for value in ANYTHING + (0, 1, one, Lot((one,)), (one,), ("levels 2 end 0 dark",), ["levels 2 end 0 dark"], Lot,
                                 b"levels 2 end 0 dark"):
            if not isinstance(value, str):
                self.check(value)

    def test_texts_of_lots_with_a_sign_changed(self):
        # A string that is read is the text of what is read, so nothing else is.
        text = "levels 5 end -8 lamps -24:4 3:1\nlevels 5 end 0 dark"
        for at in range(len(text) + 1):
            for sign in ("", " ", "\n", "0", "1", "-", ":", "x"):
                for changed in (text[:at] + sign + text[at:], text[:at] + sign + text[at + 1:]):
                    found = outcome(Lot.read, changed)
                    with self.subTest(changed=changed):
                        if isinstance(found, Lot):
                            self.assertEqual(found.text, changed)
                        else:
                            self.assertEqual(found, (InvalidText, {"given": changed}))


class Equality(unittest.TestCase):
    def test_equal_exactly_if_the_texts_are(self):
        draw = random.Random(2)
        one, two = Round(2, ((0, 1),), 1), Round(2, (), 0)
        lots = [(one,), (two,), (one, two), (two, one), (one, one), (one, two, two), (Round(3, ((0, 1),), 1),),
                (Round(2, ((1, 1),), 1),), (Round(2, ((0, 1),), 2),)] + [drawn_rounds(draw) for _ in range(20)]
        for first in lots:
            for second in lots:
                lot, other = Lot(first), Lot.read(Lot(second).text)
                with self.subTest(lot=lot.text, other=other.text):
                    self.assertIs(lot == other, first == second)
                    self.assertIs(lot != other, first != second)
                    self.assertIs(lot == other, lot.text == other.text)

    def test_never_equal_to_another_class(self):
        one = Round(2, ((0, 1),), 1)
        for rounds in ((one,), (one, one)):
            lot = Lot(rounds)
            for value in ANYTHING + (0, 1, one, lot.text, rounds, list(rounds), [lot], (lot,), repr(lot), Lot,
                                     EqualsAll(), FailsToCompare()):
                with self.subTest(value=value):
                    self.assertIs(lot == value, False)
                    self.assertIs(lot != value, True)
                    if not isinstance(value, (EqualsAll, FailsToCompare)):
                        self.assertIs(value == lot, False)
                        self.assertIs(value != lot, True)


class Unchanged(unittest.TestCase):
    def test_parts_cannot_be_set(self):
        lot = Lot((Round(3, ((0, 1),), 2),))
        for name, value in (("rounds", ()), ("levels", 5), ("text", "")):
            with self.subTest(name=name):
                self.assertRaises(AttributeError, setattr, lot, name, value)
        self.assertEqual((lot.text, lot.levels), ("levels 3 end 2 lamps 0:1", 3))


if __name__ == "__main__":
    unittest.main()
