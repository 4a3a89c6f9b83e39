"""Wishes that hold or not, and the least sets of changes that mend lots, against all sets tried here."""

import itertools
import random
import unittest

from helpers import ANYTHING, ENDS, NO_LOTS, check_wrong, drawn, drawn_lot, outcome
from lamprounds.errors import InvalidChanges, InvalidText, InvalidWish, InvalidWishes, NotLot
from lamprounds.forms import cosets, form, makes
from lamprounds.limits import LEVELS
from lamprounds.lots import Lot
from lamprounds.mends import holds, mends
from lamprounds.rounds import Round

BIG = 10 ** 39 + 7
ONE = "levels 2 end 1 lamps 0:1"
NO_WISHES = ANYTHING + (
    0, 1, "makes", "step", ("makes",), ("step",), (ONE,), ("makes", ONE, ONE), ("step", 1, 1), ("step", 1, ()),
    ["makes", ONE], ["step", 1], (("makes", ONE),), ("make", ONE), ("Makes", ONE), ("", ONE), ("steps", 1), ("coset", 1),
    ("within", ONE), (b"step", 1), (1, "step"), (ONE, "makes"), (("step",), 1), (["step"], 1),
    ("makes", 1), ("makes", None), ("makes", ""), ("makes", ONE + " "), ("makes", " " + ONE), ("makes", ONE + "\n"),
    ("makes", ONE + "\n" + ONE), ("misses", "levels 4 end 0 dark"), ("misses", "levels 2 end 01 dark"),
    ("makes", "levels 2 end 0 lamps 0:2"), ("makes", "levels 2 end 41 dark"), ("misses", "levels 2 end -41 dark"),
    ("makes", "levels 2 end 0 lamps 41:1"), ("misses", "levels 3 end 0 lamps -41:2 0:1"),
    ("makes", f"levels 2 end {BIG} dark"), ("makes", Round(2, (), 0)), ("misses", Lot((Round(2, (), 0),))),
    ("misses", (ONE,)), ("misses", [ONE]), ("makes", True), ("makes", 0), ("makes", b"levels 2 end 0 dark"),
    ("step", -1), ("cosets", -1), ("step", -BIG), ("step", True), ("step", False), ("cosets", True), ("cosets", False),
    ("step", "1"), ("step", None), ("cosets", (1,)), ("cosets", [1]), ("step", ONE), ("cosets", ONE), ("step", "")
) + tuple((word, 1) for word in ANYTHING) + tuple(("step", value) for value in ANYTHING)
RIGHT = (("makes", ONE), ("misses", "levels 7 end -40 lamps -40:6 40:1"), ("step", 0), ("cosets", BIG))


class Holds(unittest.TestCase):
    def check(self, lot, wish, expected):
        with self.subTest(lot=lot.text, wish=wish):
            self.assertIs(holds(lot, wish), expected)
            self.assertIs(holds(wish=wish, lot=lot), expected)

    def test_makes_and_misses(self):
        draw = random.Random(1)
        counts = {True: 0, False: 0}
        for levels in LEVELS:
            for ends in ENDS:
                lot = drawn_lot(draw, levels, ends, 2, 1)
                for trip in lot.rounds + (drawn(draw, levels, 3, 2, 2), drawn(draw, levels, 5, 40, 40),
                                          Round(levels, (), 0), Round(levels, ((0, 1),), draw.choice((0, 2)))):
                    made = makes(lot, trip)
                    counts[made] += 1
                    self.check(lot, ("makes", trip.text), made)
                    self.check(lot, ("misses", trip.text), not made)
        self.assertGreater(min(counts.values()), 50)

    def test_unlike_levels(self):
        for first, second in itertools.permutations(LEVELS, 2):
            lot = Lot((Round(first, (), 1), Round(first, ((0, 1),), 0)))
            for lamps, end in (((), 0), ((), 1), (((-40, 1), (40, 1)), 40)):
                self.check(lot, ("makes", Round(second, lamps, end).text), False)
                self.check(lot, ("misses", Round(second, lamps, end).text), True)

    def test_step(self):
        draw = random.Random(2)
        for ends in ENDS:
            lot = drawn_lot(draw, 5, ends)
            step = form(lot)[0]
            for number in (0, 1, 2, 3, 4, 5, 6, 7, 8, 9, 16, BIG, 10 ** 40):
                self.check(lot, ("step", number), number == step)

    def test_cosets(self):
        draw = random.Random(3)
        few = 0
        for levels in LEVELS:
            for ends in ENDS:
                lot = drawn_lot(draw, levels, ends, 3, 24)
                number = cosets(lot)
                few += number is not None
                for most in (0, 1, 2, number or 5, (number or 5) - 1, (number or 5) + 1, BIG, 10 ** 99):
                    self.check(lot, ("cosets", most), number is not None and number <= most)
        self.assertGreater(few, 10)

    def test_right_wishes(self):
        lot = Lot((Round(2, (), 1), Round(2, ((0, 1),), 0)))
        for wish, expected in zip(RIGHT, (True, True, False, True)):
            self.check(lot, wish, expected)

    def test_no_wishes(self):
        lot = Lot((Round(2, (), 1),))
        for value in NO_WISHES:
            for found, told in (outcome(holds, lot, value), outcome(holds, wish=value, lot=lot)):
                with self.subTest(value=value):
                    self.assertIs(found, InvalidWish)
                    self.assertEqual(list(told), ["given"])
                    self.assertIs(told["given"], value)

    def test_no_lots(self):
        for wish in (("step", 1), None, ("step", True)):
            check_wrong(self, holds, ("lot", "wish"), (Lot((Round(2, (), 1),)), wish), ((NotLot, NO_LOTS),))


def tried(lot, wishes, changes):
    """All least sets, by trying each set, whatever is known of others."""
    found = []
    for many in range(len(changes) + 1):
        for held in itertools.combinations(range(len(changes)), many):
            lines = [changes[at][0] for at in held]
            if len(set(lines)) < many:
                continue
            changed = outcome(lot.changed, tuple(changes[at] for at in held))
            if isinstance(changed, tuple):
                assert changed[0] is InvalidText
            elif all(holds(changed, wish) for wish in wishes):
                found.append(held)
    return tuple(held for held in found if not any(set(part) < set(held) for part in found))


class Mends(unittest.TestCase):
    def check(self, lot, wishes, changes, expected):
        with self.subTest(lot=lot.text, wishes=wishes, changes=changes):
            self.assertEqual(mends(lot, wishes, changes), expected)
            self.assertEqual(mends(changes=changes, wishes=wishes, lot=lot), expected)

    def test_drawn(self):
        draw = random.Random(4)
        sizes = {}
        for levels in LEVELS:
            for _ in range(400):
                lot = drawn_lot(draw, levels, draw.choice(((2, 0), (2,), (4, 2, 0), (0, 4, 8), (2, 4, 6, 0))), 1, 2)
                # New lines of other levels make a lot only if all lines are changed.
                other = draw.choice((levels, draw.choice(LEVELS)))
                news = [drawn(draw, other, 1, 2, 2).text for _ in range(6)]
                news += ["", "", "no round", Round(draw.choice(LEVELS), (), 1).text, f"levels {levels} end 9 dark"]
                changes = tuple((draw.randrange(len(lot)), draw.choice(news)) for _ in range(draw.choice((0, 2, 4, 6, 6, 6))))
                texts = [drawn(draw, other, 1, 1, 1).text for _ in range(3)]
                wishes = [("makes", texts[0]), ("makes", texts[1]), ("misses", texts[2]), ("step", draw.randint(0, 2)),
                          ("cosets", draw.choice((0, 1, levels, 4 * levels, BIG))),
                          ("makes", Round(other, (), 0).text)]
                wishes = tuple(draw.sample(wishes, draw.choice((0, 1, 1, 2, 2, 3))) + wishes[5:] * draw.randint(0, 1))
                expected = tried(lot, wishes, changes)
                for held in expected:
                    sizes[len(held)] = sizes.get(len(held), 0) + 1
                sizes[None] = sizes.get(None, 0) + (not expected)
                self.check(lot, wishes, changes, expected)
        self.assertGreater(min(sizes.get(many, 0) for many in (None, 0, 1, 2, 3, 4)), 5)

    def setUp(self):
        self.pairs = Lot.read("levels 2 end 2 dark\nlevels 2 end 0 lamps 0:1 1:1")

    def test_the_lot_as_it_is(self):
        changes = ((0, ONE), (1, ""), (0, "no round"))
        for wishes in ((), (("step", 2),), (("misses", ONE), ("step", 2))):
            for some in ((), changes):
                self.check(self.pairs, wishes, some, ((),))

    def test_nothing_mends(self):
        for changes in ((), ((0, ""),), ((1, ONE), (0, "")), ((0, "no round"), (1, "levels 3 end 3 dark"))):
            self.check(self.pairs, (("step", 3),), changes, ())
        self.check(self.pairs, (("cosets", 0),), ((0, ONE), (1, ONE)), ())

    def test_equal_changes_and_changes_of_one_line(self):
        wishes = (("step", 1),)
        self.check(self.pairs, wishes, ((0, ONE), (0, ONE), (0, ONE)), ((0,), (1,), (2,)))
        self.check(self.pairs, wishes, ((1, ONE), (0, ONE), (1, ONE)), ((0,), (1,), (2,)))
        # To have two lines of one line, or one line twice, is no set.
        whole = (("makes", "levels 2 end 5 dark"), ("makes", "levels 2 end 3 lamps 0:1"))
        self.check(self.pairs, whole, ((0, "levels 2 end 5 dark"), (0, "levels 2 end 3 lamps 0:1")), ())
        self.check(self.pairs, whole, ((0, "levels 2 end 5 dark"), (0, "levels 2 end 3 lamps 0:1"),
                                       (1, "levels 2 end 3 lamps 0:1")), ((0, 2),))

    def test_lines_taken_out(self):
        self.check(self.pairs, (("misses", "levels 2 end 0 lamps 0:1 1:1"),), ((1, ""), (0, "")), ((0,),))
        self.check(self.pairs, (("step", 0),), ((1, ""), (0, "")), ((1,),))
        # All lines taken out are no lot.
        self.check(self.pairs, (("misses", "levels 2 end 0 lamps 0:1 1:1"), ("step", 0)), ((1, ""), (0, "")), ())

    def test_other_levels(self):
        news = ((0, "levels 3 end 1 dark"), (1, "levels 3 end 0 lamps 0:1"), (1, ""))
        self.check(self.pairs, (("makes", "levels 3 end 1 dark"),), news, ((0, 1), (0, 2)))
        self.check(self.pairs, (("misses", "levels 2 end 0 dark"),), news, ((0, 1), (0, 2)))

    def test_a_set_that_mends_while_a_greater_part_does_not(self):
        # One change mends, with a second one no more, with a third one again: only the first one is least.
        changes = ((0, ONE), (1, "levels 2 end 2 dark"), (1, ""))
        self.check(self.pairs, (("makes", ONE), ("makes", "levels 2 end 0 lamps 0:1 1:1")), changes, ((0,),))
        lot = Lot.read("levels 2 end 2 dark\nlevels 2 end 4 dark\nlevels 2 end 6 dark")
        changes = ((0, "levels 2 end 4 dark"), (1, "levels 2 end 8 dark"), (2, "levels 2 end 8 dark"))
        self.check(lot, (("step", 4),), changes, ((0, 2),))
        self.check(lot, (("step", 2),), changes, ((),))

    def test_six_changes_and_great_numbers(self):
        lines = "\n".join(f"levels 7 end {end} lamps -24:{end + 1} 24:6" for end in (2, 4, 0, 0))
        lot = Lot.read(lines)
        changes = tuple((at % 4, f"levels 7 end {at} lamps {at}:3") for at in range(6))
        for wishes in ((("cosets", BIG),), (("cosets", 7 ** 40),), (("cosets", 7), ("step", 1)), (("cosets", 1),),
                       (("step", BIG),), (("makes", "levels 7 end 40 lamps -40:1 40:1"),)):
            self.check(lot, wishes, changes, tried(lot, wishes, changes))

    def test_no_lots(self):
        lot = Lot((Round(2, (), 1),))
        for wishes, changes in (((), ()), (None, None), ((None,), ((0, 1),))):
            check_wrong(self, mends, ("lot", "wishes", "changes"), (lot, wishes, changes), ((NotLot, NO_LOTS),))

    def check_wrong(self, wishes, changes, error, index):
        for found in (outcome(mends, self.pairs, wishes, changes),
                      outcome(mends, changes=changes, wishes=wishes, lot=self.pairs)):
            with self.subTest(wishes=wishes, changes=changes):
                self.assertEqual(found, (error, {"index": index}))

    def test_wrong_wishes(self):
        for changes in ((), None, ((9, ONE),)):
            for value in ANYTHING + (0, [RIGHT[0]], "makes", {("step", 1): 1}):
                if not isinstance(value, tuple):
                    self.check_wrong(value, changes, InvalidWishes, None)
            for value in NO_WISHES:
                self.check_wrong((value,), changes, InvalidWishes, 0)
                self.check_wrong(RIGHT + (value, value), changes, InvalidWishes, 4)
            self.check_wrong(("makes", ONE), changes, InvalidWishes, 0)

    def test_wrong_changes(self):
        for value in ANYTHING + (0, [(0, "")], {0: ""}, "0"):
            if not isinstance(value, tuple):
                self.check_wrong((), value, InvalidChanges, None)
        wrong = ANYTHING + (0, 1, (0,), ("",), (0, "", ""), [0, ""], (2, ""), (-1, ""), (BIG, ""), (True, ""), (False, ""),
                            ("0", ""), (None, ""), (0, 1), (0, None), (0, b""), (0, (ONE,)), (0, "\n"), (0, ONE + "\n"),
                            (0, ONE + "\n" + ONE), ((0, ""),), (0, Round(2, (), 0)))
        for value in wrong:
            self.check_wrong((), (value,), InvalidChanges, 0)
            self.check_wrong(RIGHT, ((1, ""), (1, ""), (0, "no round"), value, None), InvalidChanges, 3)
            self.check_wrong((), ((1, ""),) * 5 + (value,) + ((1, ""),) * 2, InvalidChanges, 5)
            self.check_wrong((), ((1, ""),) * 6 + (value,), InvalidChanges, 6)
        self.check_wrong((), ((0, ONE),) * 7, InvalidChanges, 6)
        self.check_wrong((), ((0, ONE),) * 9, InvalidChanges, 6)
        self.check_wrong((("step", 3),), ((0, ONE), (1, "")) * 4, InvalidChanges, 6)


if __name__ == "__main__":
    unittest.main()
