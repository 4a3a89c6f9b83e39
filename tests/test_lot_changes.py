"""Lots with changes of their lines."""

import itertools
import random
import unittest

from helpers import ANYTHING, outcome
from lamprounds.errors import InvalidChanges, InvalidText
from lamprounds.lots import Lot
from lamprounds.rounds import Round

LINES = ("levels 3 end 1 lamps 0:1 2:2", "levels 3 end -8 dark", "levels 3 end 0 lamps -24:1", "levels 3 end 2 dark")
NEW = ("levels 3 end 0 dark", "levels 3 end 8 lamps 24:2", "levels 3 end 1 lamps 0:1 2:2")
BIG = 10 ** 39 + 7


class Case(unittest.TestCase):
    def setUp(self):
        self.lot = Lot.read("\n".join(LINES))

    def check(self, changes, lines, lot=None):
        lot = lot or self.lot
        text = lot.text
        for found in (lot.changed(changes), lot.changed(changes=changes)):
            with self.subTest(changes=changes):
                self.assertIs(type(found), Lot)
                self.assertEqual(found.text, "\n".join(lines))
                self.assertEqual(found, Lot.read("\n".join(lines)))
                self.assertEqual(lot.text, text)

    def check_wrong(self, changes, index, lot=None):
        lot = lot or self.lot
        text = lot.text
        for found in (outcome(lot.changed, changes), outcome(lot.changed, changes=changes)):
            with self.subTest(changes=changes):
                self.assertEqual(found, (InvalidChanges, {"index": index}))
                self.assertEqual(lot.text, text)

    def check_text(self, changes, given, lot=None):
        lot = lot or self.lot
        text = lot.text
        for found in (outcome(lot.changed, changes), outcome(lot.changed, changes=changes)):
            with self.subTest(changes=changes):
                self.assertEqual(found, (InvalidText, {"given": given}))
                self.assertEqual(lot.text, text)


class Changed(Case):
    def test_no_changes(self):
        self.check((), LINES)
        self.check((), LINES[:1], Lot.read(LINES[0]))

    def test_a_line_put_otherwise(self):
        for at in range(4):
            for new in NEW + LINES:
                self.check(((at, new),), LINES[:at] + (new,) + LINES[at + 1:])

    def test_a_line_taken_out(self):
        for at in range(4):
            self.check(((at, ""),), LINES[:at] + LINES[at + 1:])

    def test_all_at_once_in_any_order(self):
        for many in (2, 3, 4):
            for indexes in itertools.permutations(range(4), many):
                for new in itertools.product(("",) + NEW[:2], repeat=many):
                    lines = dict(enumerate(LINES)) | dict(zip(indexes, new))
                    lines = [lines[at] for at in range(4) if lines[at]]
                    changes = tuple(zip(indexes, new))
                    if lines:
                        self.check(changes, lines)
                    else:
                        self.check_text(changes, "")

    def test_lines_that_change_places(self):
        self.check(((0, LINES[3]), (3, LINES[0])), (LINES[3], LINES[1], LINES[2], LINES[0]))

    def test_other_levels_in_all_lines(self):
        self.check(tuple((at, f"levels 7 end {at} dark") for at in range(4)),
                   tuple(f"levels 7 end {at} dark" for at in range(4)))
        self.check(((1, ""), (0, "levels 2 end 0 dark")), ("levels 2 end 0 dark",), Lot.read("\n".join(LINES[:2])))

    def test_drawn(self):
        draw = random.Random(1)
        for _ in range(100):
            lines = [draw.choice(LINES + NEW) for _ in range(draw.randint(1, 4))]
            indexes = draw.sample(range(len(lines)), draw.randint(0, len(lines)))
            changes = tuple((at, draw.choice(NEW + ("",))) for at in indexes)
            expected = [dict(changes).get(at, line) for at, line in enumerate(lines)]
            expected = [line for line in expected if line]
            if expected:
                self.check(changes, expected, Lot.read("\n".join(lines)))

    def test_the_rounds_are_those_of_the_text(self):
        lot = self.lot.changed(((1, ""), (2, "levels 3 end 5 lamps 7:2")))
        self.assertEqual(lot.rounds, (Round.read(LINES[0]), Round(3, ((7, 2),), 5), Round.read(LINES[3])))


class WrongChanges(Case):
    def test_no_tuple(self):
        for value in ANYTHING + (0, 1, [(0, "")], {0: ""}, {(0, "")}, "0", self.lot):
            if not isinstance(value, tuple):
                self.check_wrong(value, None)

    def test_elements_that_are_no_pairs(self):
        for value in ANYTHING + (0, 1, "ab", ("",), (0,), (0, "", ""), [0, ""], {0: ""}, ((0, ""),), ("", 0)):
            self.check_wrong((value,), 0)
            self.check_wrong(((3, ""), value), 1)
            self.check_wrong(((3, ""), (0, NEW[0]), value, None), 2)

    def test_indexes_of_no_line(self):
        for index in ANYTHING + (-1, -4, 4, 5, BIG, -BIG, "0", (0,), [0]):
            self.check_wrong(((index, ""),), 0)
            self.check_wrong(((3, ""), (index, NEW[0])), 1)
        short = Lot.read(LINES[0])
        self.check_wrong(((1, NEW[0]),), 0, short)
        self.check_wrong(((0, NEW[0]), (1, "")), 1, short)
        self.check_wrong(((3, ""), (2, ""), (True, "")), 2)
        self.check_wrong(((False, ""),), 0)

    def test_new_lines_that_are_none(self):
        for new in ANYTHING + (0, 1, b"levels 3 end 0 dark", ("",), [""], Round(3, (), 0), "\n", NEW[0] + "\n",
                               "\n" + NEW[0], NEW[0] + "\n" + NEW[1], "x\ny"):
            if not isinstance(new, str) or "\n" in new:
                self.check_wrong(((0, new),), 0)
                self.check_wrong(((0, ""), (1, "no round"), (2, new), (0, "")), 2)

    def test_lines_changed_twice(self):
        self.check_wrong(((0, ""), (0, "")), 1)
        self.check_wrong(((0, NEW[0]), (0, NEW[0])), 1)
        self.check_wrong(((2, NEW[0]), (1, ""), (2, NEW[1])), 2)
        self.check_wrong(((0, ""), (1, ""), (2, ""), (3, ""), (1, NEW[0])), 4)
        self.check_wrong(((0, ""), (1, ""), (2, ""), (3, ""), (4, "")), 4)
        self.check_wrong(((0, "no round"), (0, "no round")), 1)
        self.check_wrong(((0, ""), (0, ""), None), 1)

    def test_texts_of_no_lot(self):
        one, two, three, four = LINES
        self.check_text(((0, "no round"),), "\n".join(("no round", two, three, four)))
        self.check_text(((0, " "),), "\n".join((" ", two, three, four)))
        self.check_text(((1, "levels 2 end 0 dark"),), "\n".join((one, "levels 2 end 0 dark", three, four)))
        self.check_text(((3, "levels 3 end 9 dark"),), "\n".join((one, two, three, "levels 3 end 9 dark")))
        self.check_text(((2, ""), (0, "levels 3 end 0 lamps 25:1")),
                        "\n".join(("levels 3 end 0 lamps 25:1", two, four)))
        self.check_text(((3, "a"), (2, "b"), (0, ""), (1, "c")), "c\nb\na")

    def test_all_taken_out(self):
        self.check_text(tuple((at, "") for at in (2, 0, 3, 1)), "")
        self.check_text(((0, ""),), "", Lot.read(LINES[0]))


if __name__ == "__main__":
    unittest.main()
