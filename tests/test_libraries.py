"""Libraries: lots under names, wishes that hold, what is taken back, and trials."""

import random
import unittest

from helpers import ANYTHING, NO_LOTS, EqualsAll, FailsToCompare, outcome
from lamprounds.errors import (Broken, InUse, InvalidIndex, InvalidName, InvalidWish, NothingToUndo, NotLot,
                               UnknownName)
from lamprounds.libraries import Library
from lamprounds.lots import Lot
from lamprounds.mends import holds
from lamprounds.rounds import Round

BIG = 10 ** 39 + 7
FULL = Lot.read("levels 2 end 1 dark\nlevels 2 end 0 lamps 0:1")
PAIRS = Lot.read("levels 2 end 2 dark\nlevels 2 end 0 lamps 0:1 1:1")
THREES = Lot.read("levels 2 end 1 lamps 0:1\nlevels 2 end 3 dark")
STILL = Lot.read("levels 3 end 0 dark")
LOTS = (FULL, PAIRS, THREES, STILL, Lot.read("levels 7 end 2 lamps -1:6\nlevels 7 end -4 dark"))
WISHES = (("makes", "levels 2 end 2 dark"), ("misses", "levels 2 end 1 lamps 0:1"), ("step", 1), ("step", 2), ("cosets", 4),
          ("cosets", BIG), ("makes", "levels 3 end 0 dark"), ("misses", "levels 3 end 1 dark"), ("step", 0), ("cosets", 0))
NO_NAMES = ANYTHING + (0, 1, "A", "1", "1a", "aB", "a_", "a b", " a", "a ", "a\n", "abcdefghi", "a1234567b", "-", ("a",),
                       ["a"], b"a", Library(), FULL)
NO_WISHES = ANYTHING + (0, "makes", ("step",), ("step", -1), ("step", True), ["step", 1], ("steps", 1), ("cosets", "1"),
                        ("makes", "levels 2 end 41 dark"), ("makes", "levels 2 end 0 dark "), ("misses", FULL.text),
                        ("step", 1, 1), (("step", 1),), ("makes", Round(2, (), 0)))


class Stopped(Exception):
    """An exception of the tests' own."""


class Plain:
    """A library led in the test: what it was after each change that can be taken back."""

    def __init__(self):
        self.past = [({}, ())]

    def deed(self, lots=None, wishes=None):
        self.past.append((self.lots if lots is None else lots, self.wishes if wishes is None else wishes))

    @property
    def lots(self):
        return self.past[-1][0]

    @property
    def wishes(self):
        return self.past[-1][1]

    def copy(self):
        copied = Plain()
        copied.past = list(self.past)
        return copied


class Case(unittest.TestCase):
    def check(self, library, plain):
        self.assertEqual(library.names, tuple(sorted(plain.lots)))
        self.assertIs(type(library.names), tuple)
        self.assertEqual(library.wishes, plain.wishes)
        self.assertIs(type(library.wishes), tuple)
        self.assertEqual(library.changes, len(plain.past) - 1)
        self.assertEqual(len(library), len(plain.lots))
        self.assertIs(bool(library), True)
        for name, lot in plain.lots.items():
            self.assertIs(library[name], lot)
            self.assertIs(name in library, True)
            self.assertIs(name not in library, False)
        for name, wish in library.wishes:
            self.assertIs(holds(library[name], wish), True)

    def all_taken_back(self, library, plain):
        """Check all that can be taken back, by taking it back."""
        plain = plain.copy()
        self.check(library, plain)
        while len(plain.past) > 1:
            plain.past.pop()
            self.assertIsNone(library.undo())
            self.check(library, plain)
        self.refused(library, plain, NothingToUndo, {}, library.undo)

    def refused(self, library, plain, error, told, call, *args, **named):
        """Check that a call raises this error, and that nothing is another by it."""
        found = outcome(call, *args, **named)
        self.assertIsInstance(found, tuple)
        self.assertIs(found[0], error)
        self.assertEqual(list(found[1]), list(told))
        for name, value in told.items():
            if name == "given":
                self.assertIs(found[1][name], value)
            else:
                self.assertEqual(found[1][name], value)
        self.check(library, plain)

    def begun(self):
        """A library with two lots and three wishes, and a plain one that is the same."""
        library, plain = Library(), Plain()
        for name, lot in (("a", FULL), ("b2", THREES)):
            library[name] = lot
            plain.deed({**plain.lots, name: lot})
        for name, wish in (("a", ("cosets", 4)), ("b2", ("misses", "levels 2 end 1 dark")), ("a", ("step", 1))):
            library.wish(name, wish)
            plain.deed(None, plain.wishes + ((name, wish),))
        self.check(library, plain)
        return library, plain


def put(library, name, lot):
    library[name] = lot


def broken(plain, name, lot):
    """The index of the first wish for a name that would not hold for a lot."""
    found = [at for at, (wished, wish) in enumerate(plain.wishes) if wished == name and not holds(lot, wish)]
    return found[0] if found else None


class Deeds(Case):
    def drawn_deed(self, draw, library, plain):
        name, lot, wish, deed = draw.choice(("a", "b", "c9")), draw.choice(LOTS), draw.choice(WISHES), draw.random()
        if deed < 0.25:
            index = broken(plain, name, lot)
            if index is not None:
                self.refused(library, plain, Broken, {"index": index}, put, library, name, lot)
            else:
                library[name] = lot
                plain.deed({**plain.lots, name: lot})
        elif deed < 0.35:
            wished = [at for at, (one, _) in enumerate(plain.wishes) if one == name]
            if name not in plain.lots:
                self.refused(library, plain, UnknownName, {"given": name}, library.remove, name)
            elif wished:
                self.refused(library, plain, InUse, {"index": wished[0]}, library.remove, name=name)
            else:
                self.assertIsNone(library.remove(name))
                plain.deed({other: one for other, one in plain.lots.items() if other != name})
        elif deed < 0.65:
            if name not in plain.lots:
                self.refused(library, plain, UnknownName, {"given": name}, library.wish, name, wish)
            elif not holds(plain.lots[name], wish):
                told = {"index": len(plain.wishes)}
                self.refused(library, plain, Broken, told, library.wish, wish=wish, name=name)
            else:
                self.assertIsNone(library.wish(name, wish))
                plain.deed(None, plain.wishes + ((name, wish),))
        elif deed < 0.8:
            index = draw.randint(-1, 6)
            if 0 <= index < len(plain.wishes):
                self.assertIsNone(library.lift(index) if draw.random() < 0.5 else library.lift(index=index))
                plain.deed(None, plain.wishes[:index] + plain.wishes[index + 1:])
            else:
                self.refused(library, plain, InvalidIndex, {"given": index}, library.lift, index)
        elif len(plain.past) > 1:
            self.assertIsNone(library.undo())
            plain.past.pop()
        else:
            self.refused(library, plain, NothingToUndo, {}, library.undo)

    def test_drawn_on_two_libraries_by_turns(self):
        draw = random.Random(1)
        for _ in range(25):
            pairs = [(Library(), Plain()), (Library(), Plain())]
            for _ in range(60):
                self.drawn_deed(draw, *draw.choice(pairs))
                for library, plain in pairs:
                    self.check(library, plain)
            for library, plain in pairs:
                self.all_taken_back(library, plain)

    def test_drawn_in_trials(self):
        draw = random.Random(2)

        def act(library, plain, depth):
            for _ in range(draw.randint(0, 7)):
                if draw.random() < 0.7 or depth > 3:
                    self.drawn_deed(draw, library, plain)
                    continue
                before, trial, stops = plain.copy(), draw.choice(trials), draw.random() < 0.5
                try:
                    with trial as held:
                        self.assertIs(held, library)
                        act(library, plain, depth + 1)
                        if stops:
                            raise Stopped
                except Stopped:
                    plain.past = before.past
                self.check(library, plain)

        for _ in range(120):
            library, plain = Library(), Plain()
            trials = [library.trial(), library.trial()]
            act(library, plain, 0)
            self.all_taken_back(library, plain)


class Single(Case):
    def test_a_new_library(self):
        self.check(Library(), Plain())
        self.all_taken_back(Library(), Plain())

    def test_names(self):
        library, plain = Library(), Plain()
        for name in ("a", "z", "b9", "abcdefgh", "a1234567", "q0z", "aa"):
            library[name] = STILL
            plain.deed({**plain.lots, name: STILL})
            self.check(library, plain)

    def test_wishes_as_they_were_passed(self):
        library, plain = self.begun()
        wish = ("misses", "levels 7 end 0 dark")
        library.wish("a", wish)
        self.assertIs(library.wishes[-1][1], wish)
        self.assertEqual(library.wishes[-1], ("a", wish))
        library.wish(wish=wish, name="a")
        self.assertEqual(library.wishes[-2:], (("a", wish), ("a", wish)))

    def test_changes_that_change_nothing_count(self):
        library, plain = self.begun()
        library["a"] = FULL
        plain.deed()
        self.check(library, plain)
        self.all_taken_back(library, plain)

    def test_the_first_broken_wish(self):
        library, plain = self.begun()
        self.refused(library, plain, Broken, {"index": 0}, put, library, "a", PAIRS)
        self.refused(library, plain, Broken, {"index": 1}, put, library, "b2", FULL)
        self.refused(library, plain, Broken, {"index": 2}, put, library, "a",
                     Lot.read("levels 2 end 2 dark\nlevels 2 end 0 lamps 0:1\nlevels 2 end 0 lamps 1:1"))
        # A lot under another name, or under a new one, is not asked for these.
        library["b2"] = PAIRS
        library["c"] = STILL
        plain.deed({**plain.lots, "b2": PAIRS})
        plain.deed({**plain.lots, "c": STILL})
        self.all_taken_back(library, plain)

    def test_a_wish_that_does_not_hold(self):
        library, plain = self.begun()
        for name, wish in (("a", ("cosets", 0)), ("a", ("misses", "levels 2 end 1 lamps 0:1")), ("b2", ("step", 2)),
                           ("b2", ("cosets", 3)), ("a", ("makes", "levels 3 end 0 dark"))):
            self.refused(library, plain, Broken, {"index": 3}, library.wish, name, wish)
        self.refused(Library(), Plain(), UnknownName, {"given": "a"}, Library().wish, "a", ("step", 1))

    def test_names_that_wishes_use(self):
        library, plain = self.begun()
        self.refused(library, plain, InUse, {"index": 0}, library.remove, "a")
        self.refused(library, plain, InUse, {"index": 1}, library.remove, name="b2")
        self.assertIsNone(library.lift(0))
        plain.deed(None, plain.wishes[1:])
        self.refused(library, plain, InUse, {"index": 1}, library.remove, "a")
        library.lift(1)
        plain.deed(None, plain.wishes[:1])
        self.assertIsNone(library.remove(name="a"))
        plain.deed({"b2": THREES})
        self.check(library, plain)
        self.refused(library, plain, UnknownName, {"given": "a"}, library.remove, "a")
        self.all_taken_back(library, plain)

    def test_invalid_names_and_lots(self):
        library, plain = self.begun()
        for name in NO_NAMES:
            for lot in (FULL, None, PAIRS):
                self.refused(library, plain, InvalidName, {"given": name}, put, library, name, lot)
        for lot in NO_LOTS:
            for name in ("a", "b2", "new"):
                self.refused(library, plain, NotLot, {"given": lot}, put, library, name, lot)
        self.all_taken_back(library, plain)

    def test_unknown_names(self):
        library, plain = self.begun()
        for name in NO_NAMES + ("b", "aa", "c", "b22"):
            self.assertIs(name in library, False)
            self.refused(library, plain, UnknownName, {"given": name}, lambda: library[name])
            self.refused(library, plain, UnknownName, {"given": name}, library.remove, name)
            for wish in (("step", 1), ("cosets", 0), None, FailsToCompare()):
                self.refused(library, plain, UnknownName, {"given": name}, library.wish, name, wish)
                self.refused(library, plain, UnknownName, {"given": name}, library.wish, wish=wish, name=name)
        self.all_taken_back(library, plain)

    def test_no_wishes(self):
        library, plain = self.begun()
        for wish in NO_WISHES:
            for name in ("a", "b2"):
                self.refused(library, plain, InvalidWish, {"given": wish}, library.wish, name, wish)

    def test_no_indexes(self):
        library, plain = self.begun()
        for index in ANYTHING + (-1, -3, 3, 4, BIG, -BIG, "0", (0,), [0]):
            self.refused(library, plain, InvalidIndex, {"given": index}, library.lift, index)
            self.refused(library, plain, InvalidIndex, {"given": index}, library.lift, index=index)
        empty = Library()
        self.refused(empty, Plain(), InvalidIndex, {"given": 0}, empty.lift, 0)

    def test_lifted_from_each_place(self):
        for index in range(3):
            library, plain = self.begun()
            self.assertIsNone(library.lift(index))
            plain.deed(None, plain.wishes[:index] + plain.wishes[index + 1:])
            self.all_taken_back(library, plain)

    def test_a_wish_taken_back_is_asked_no_more(self):
        library, plain = Library(), Plain()
        library["a"] = FULL
        library.wish("a", ("cosets", 1))
        self.assertEqual(outcome(put, library, "a", PAIRS), (Broken, {"index": 0}))
        library.undo()
        library["a"] = PAIRS
        self.assertEqual((library["a"], library.changes), (PAIRS, 2))
        library.undo()
        library.undo()
        self.check(library, plain)

    def test_not_equal(self):
        library = Library()
        self.assertIs(library == Library(), False)
        self.assertIs(library != Library(), True)
        for value in ANYTHING + (0, {}):
            if not isinstance(value, (EqualsAll, FailsToCompare)):
                self.assertIs(library == value, False)
                self.assertIs(library != value, True)


class Trials(Case):
    def test_what_was_done_stays(self):
        library, plain = self.begun()
        with library.trial() as held:
            self.assertIs(held, library)
            library["c"] = PAIRS
            library.lift(1)
        plain.deed({**plain.lots, "c": PAIRS})
        plain.deed(None, plain.wishes[:1] + plain.wishes[2:])
        self.check(library, plain)
        with library.trial():
            for _ in range(3):
                library.undo()
        del plain.past[-3:]
        self.all_taken_back(library, plain)

    def test_blocks_that_end_without_an_exception(self):
        library, plain = self.begun()

        def returns():
            with library.trial():
                library["c"] = PAIRS
                return library.changes

        self.assertEqual(returns(), 6)
        for _ in range(3):
            with library.trial():
                library["d"] = PAIRS
                break
        plain.deed({**plain.lots, "c": PAIRS})
        plain.deed({**plain.lots, "d": PAIRS})
        self.all_taken_back(library, plain)

    def test_exceptions(self):
        library, plain = self.begun()
        for many in (0, 1, 5):
            with self.assertRaises(Stopped) as caught:
                with library.trial():
                    library["c"] = PAIRS
                    library.undo()
                    for _ in range(many):
                        library.undo()
                    library["d"] = PAIRS
                    raise Stopped("told")
            self.assertEqual(str(caught.exception), "told")
            self.check(library, plain)
        with self.assertRaises(Broken):
            with library.trial():
                library["c"] = PAIRS
                library["a"] = PAIRS
        self.all_taken_back(library, plain)

    def test_exceptions_caught_within(self):
        library, plain = self.begun()
        with library.trial():
            library["c"] = PAIRS
            self.assertEqual(outcome(put, library, "a", PAIRS), (Broken, {"index": 0}))
        plain.deed({**plain.lots, "c": PAIRS})
        self.all_taken_back(library, plain)

    def test_trials_within_trials(self):
        library, plain = self.begun()
        trial = library.trial()
        for one, two in ((trial, trial), (library.trial(), library.trial()), (trial, library.trial())):
            # The inner one fails and the outer one does not.
            with one:
                library["c"] = PAIRS
                with self.assertRaises(Stopped):
                    with two:
                        library.remove("c")
                        library.undo()
                        library.undo()
                        library.undo()
                        raise Stopped
                self.assertEqual(library.names, ("a", "b2", "c"))
            library.undo()
            self.check(library, plain)
            # The outer one fails and the inner one does not.
            with self.assertRaises(Stopped):
                with one:
                    library["c"] = PAIRS
                    with two:
                        library["d"] = PAIRS
                    self.assertEqual(library.names, ("a", "b2", "c", "d"))
                    raise Stopped
            self.check(library, plain)
        self.all_taken_back(library, plain)

    def test_one_object_for_several_statements(self):
        library, plain = self.begun()
        trial = library.trial()
        library["c"] = PAIRS
        plain.deed({**plain.lots, "c": PAIRS})
        for _ in range(2):
            with self.assertRaises(Stopped):
                with trial:
                    library.undo()
                    library.undo()
                    raise Stopped
            # The trial begins when the statement does.
            self.check(library, plain)
        with trial:
            library["d"] = STILL
        plain.deed({**plain.lots, "d": STILL})
        self.all_taken_back(library, plain)

    def test_tried(self):
        library, plain = self.begun()

        def action(given):
            self.assertIs(given, library)
            given["c"] = PAIRS
            return given.tried(len), given.changes

        self.assertEqual(library.tried(action), (3, 6))
        plain.deed({**plain.lots, "c": PAIRS})
        self.check(library, plain)
        self.assertEqual(library.tried(action=action), (3, 7))
        plain.deed()
        self.assertIsNone(library.tried(lambda given: given.undo()))
        plain.past.pop()

        def fails(given):
            given["d"] = PAIRS
            given.undo()
            given.undo()
            raise Stopped("told")

        self.refused(library, plain, Stopped, {}, library.tried, fails)
        self.all_taken_back(library, plain)


if __name__ == "__main__":
    unittest.main()
