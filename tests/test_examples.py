"""The document's examples, and those of the README."""

import pathlib
import unittest

from helpers import outcome
from lamprounds.certificates import certify_alike, certify_made, certify_root, certify_same, certify_steps
from lamprounds.checker import accepts
from lamprounds.consoles import Console
from lamprounds.doing import level_after, often, order, then, undone
from lamprounds.errors import Broken, InvalidLamps, InvalidRounds, OtherLevels, TooMany
from lamprounds.forms import cosets, doing, form, makes, needless, plan, same, within
from lamprounds.libraries import Library
from lamprounds.likeness import alike, commute, is_alike, root
from lamprounds.lots import Lot
from lamprounds.mends import holds, mends
from lamprounds.rounds import Round
from lamprounds.streets import Street
from lamprounds.walks import least_walk, steps, walked

README = pathlib.Path(__file__).resolve().parent.parent / "README.md"


class Examples(unittest.TestCase):
    def setUp(self):
        self.one = Round(2, ((0, 1),), 1)
        self.far = Round.read("levels 3 end -2 lamps -1:2 5:1")
        self.full = Lot((Round(2, (), 1), Round(2, ((0, 1),), 0)))
        self.pairs = Lot.read("levels 2 end 2 dark\nlevels 2 end 0 lamps 0:1 1:1")
        self.threes = Lot((self.one, Round(2, (), 3)))

    def test_rounds(self):
        one, far = self.one, self.far
        self.assertEqual(
            [one.text, far.lamps, far.end, len(far), repr(one), Round(3, (), 0).text, bool(Round(3, (), 0))],
            ["levels 2 end 1 lamps 0:1", ((-1, 2), (5, 1)), -2, 2, "Round of 1 lamps", "levels 3 end 0 dark", True])
        self.assertEqual(outcome(Round, 3, ((0, 1), (1, 3)), 0), (InvalidLamps, {"index": 1}))

    def test_doing(self):
        one, far = self.one, self.far
        self.assertEqual(
            [then(one, one).text, undone(one).text, often(one, 3).text, often(one, -2).text,
             then(far, undone(far)).text],
            ["levels 2 end 2 lamps 0:1 1:1", "levels 2 end -1 lamps -1:1", "levels 2 end 3 lamps 0:1 1:1 2:1",
             "levels 2 end -2 lamps -2:1 -1:1", "levels 3 end 0 dark"])
        self.assertEqual(
            [level_after(one, 10 ** 30, 5), level_after(one, 10 ** 30, 10 ** 30), level_after(one, -3, -3),
             order(one), order(Round(3, ((4, 2),), 0)), order(Round(5, (), 0))],
            [1, 0, 1, None, 3, 1])
        self.assertEqual(often(Round(2, ((0, 1), (1, 1)), 1), 10 ** 20).lamps,
                         ((0, 1), (100000000000000000000, 1)))
        self.assertEqual(outcome(often, one, 1000), (TooMany, {"given": 1000}))

    def test_walks(self):
        one = self.one
        self.assertEqual(
            [walked(2, "+>") == one, walked(3, "<++>>>+<<").text, steps(one), least_walk(one),
             steps(Round(3, ((-1, 2), (2, 1)), 0)), steps(Round(7, ((10 ** 30, 6),), 0))],
            [True, "levels 3 end 0 lamps -1:2 2:1", 2, "+>", 9, 2000000000000000000000000000006])

    def test_likeness(self):
        one = self.one
        self.assertEqual(
            [alike(one, Round(2, ((5, 1),), 1)) is None, alike(one, Round(2, (), 1)),
             is_alike(one, Round(2, ((10 ** 30, 1),), 1)), commute(one, often(one, 3)),
             commute(one, Round(2, ((0, 1),), 0))],
            [False, None, True, True, False])
        self.assertEqual(
            [root(often(one, 3), 3).text, root(Round(2, ((0, 1),), 2), 2), root(Round(3, ((0, 1),), 0), 2).text,
             root(Round(3, ((0, 1),), 0), 3)],
            ["levels 2 end 1 lamps 0:1", None, "levels 3 end 0 lamps 0:2", None])

    def test_lots(self):
        one, full, pairs, threes = self.one, self.full, self.pairs, self.threes
        self.assertEqual(
            [len(pairs), repr(pairs), pairs.levels, pairs.changed(((1, ""),)).text, full.text],
            [2, "Lot of 2 rounds", 2, "levels 2 end 2 dark", "levels 2 end 1 dark\nlevels 2 end 0 lamps 0:1"])
        self.assertEqual(threes.text, "levels 2 end 1 lamps 0:1\nlevels 2 end 3 dark")
        self.assertEqual(outcome(Lot, (one, Round(2, ((25, 1),), 0))), (InvalidRounds, {"index": 1}))

    def test_forms(self):
        one, full, pairs, threes = self.one, self.full, self.pairs, self.threes
        self.assertEqual(
            [form(full), form(pairs), form(threes),
             form(Lot((Round(3, ((0, 1), (1, 1)), 0), Round(3, ((1, 2),), 0))))],
            [(1, (((0, 1),),), ()), (2, (((0, 1), (1, 1)),), ()), (1, (((0, 1), (1, 1), (2, 1)),), ((0, 1),)),
             (0, (((0, 1),), ((1, 1),)), ())])
        self.assertEqual(
            [cosets(full), cosets(pairs), cosets(threes), makes(threes, Round(2, (), 3)),
             makes(threes, Round(2, (), 1)), makes(pairs, Round(2, ((4, 1), (5, 1)), -6)),
             makes(pairs, Round(2, ((1, 1), (2, 1)), 0))],
            [1, None, 4, True, False, True, False])
        self.assertEqual(
            [doing(pairs, ((0, 1), (1, 1), (0, -1))).text, plan(full, Round(2, (), 0)) is None, plan(pairs, one),
             same(full, Lot((one, Round(2, ((0, 1),), 0)))), within(pairs, full), within(full, pairs),
             needless(Lot((one, Round(2, ((0, 1),), 0), then(one, one))))],
            ["levels 2 end 0 lamps 2:1 3:1", False, None, True, True, False, (2,)])

    def test_mends(self):
        one, far, full, pairs, threes = self.one, self.far, self.full, self.pairs, self.threes
        self.assertEqual(
            [holds(full, ("makes", one.text)), holds(pairs, ("misses", one.text)), holds(threes, ("cosets", 4)),
             holds(threes, ("cosets", 3)), holds(pairs, ("cosets", 10 ** 9)), holds(pairs, ("step", 2)),
             holds(full, ("makes", far.text))],
            [True, True, True, False, False, True, False])
        self.assertEqual(
            mends(pairs, (("makes", one.text),), ((0, "levels 2 end 1 dark"), (1, "levels 2 end 0 lamps 0:1"),
                                                  (1, "levels 2 end 1 lamps 0:1"), (0, ""))),
            ((2,), (0, 1)))

    def test_streets(self):
        one, street = self.one, Street(2)
        self.assertEqual(
            [street.do(one), street.do(one), street.lamps, street.do(undone(one)), street.lamps, len(street),
             street.undo(), street.place, street.trip.text, street.tried(len)],
            [1, 2, ((0, 1), (1, 1)), 1, ((0, 1),), 3, None, 2, "levels 2 end 2 lamps 0:1 1:1", 2])
        self.assertEqual(outcome(street.do, self.far), (OtherLevels, {"given": 3}))

    def test_consoles(self):
        console = Console()
        lines = ("round a levels 2 end 1 lamps 0:1", "round b levels 2 end 3 dark", "steps a", "order a",
                 "level a 100 99", "made b a", "cosets a b", "cosets a", "alike a b")
        self.assertEqual([console.do(line) for line in lines],
                         ["put", "put", "2", "none", "1", "no", "4", "endless", "no"])
        lines = ("made a b z", "round c levels 4 end 0 dark", "drop a", "steps a", "undo", "cosets a a a a a")
        self.assertEqual([console.do(line) for line in lines] + [console.names],
                         ["no such round", "no round", "dropped", "no such round", "undone", "no lot", ("a", "b")])

    def test_libraries(self):
        library = Library()
        library["all"] = self.full
        library.wish("all", ("cosets", 1))
        self.assertEqual([library.names, library.wishes, library.changes, "all" in library],
                         [("all",), (("all", ("cosets", 1)),), 2, True])
        self.assertEqual(outcome(lambda: library.__setitem__("all", self.pairs)), (Broken, {"index": 0}))

    def test_checker_and_certificates(self):
        one, full, pairs, threes = self.one, self.full, self.pairs, self.threes
        found = (certify_made(threes, Round(2, (), 3)), certify_made(pairs, one), certify_same(full, full),
                 certify_alike(one, Round(2, ((5, 1),), 1)), certify_root(often(one, 3), 3), certify_steps(one))
        self.assertEqual(
            [[accepts(*pair) for pair in found], [pair[0][0] for pair in found], found[4][1], found[5],
             certify_alike(one, Round(2, (), 1)), certify_same(full, pairs)],
            [[True, True, True, True, True, True], ["makes", "misses", "same", "alike", "root", "steps"],
             "levels 2 end 1 lamps 0:1", (("steps", "levels 2 end 1 lamps 0:1", 2), "+>"), None, None])
        self.assertEqual(
            [accepts(("makes", pairs.text, "levels 2 end 0 lamps 2:1 3:1"), ((0, 1), (1, 1), (0, -1))),
             accepts(("misses", pairs.text, one.text), (2, (((0, 1), (1, 1)),), ())),
             accepts(("misses", pairs.text, one.text), (1, (((0, 1),),), ())),
             accepts(("alike", one.text, "levels 2 end 1 lamps 5:1"), "levels 2 end 5 dark"),
             accepts(("steps", one.text, 4), "<>+>")],
            [True, True, False, True, True])

    def test_readme(self):
        block = README.read_text(encoding="ascii").split("```")[1]
        names = {}
        for example in block.split(">>> ")[1:]:
            code, _, printed = example.strip().partition("\n")
            with self.subTest(code=code):
                if printed:
                    self.assertEqual(repr(eval(code, names)), printed)
                else:
                    exec(code, names)
        self.assertIn("lot", names)


if __name__ == "__main__":
    unittest.main()
