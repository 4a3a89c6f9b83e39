"""Consoles: all lines and all of their answers."""

import random
import unittest

from helpers import ANYTHING, drawn, drawn_lot, largest_lot, outcome
from lamprounds.consoles import Console
from lamprounds.doing import level_after, often, order
from lamprounds.errors import InvalidRounds
from lamprounds.forms import cosets, makes
from lamprounds.likeness import is_alike
from lamprounds.limits import LEVELS
from lamprounds.lots import Lot
from lamprounds.rounds import Round
from lamprounds.walks import steps

BIG = 10 ** 39 + 7
ONE = "levels 2 end 1 lamps 0:1"


def console_with(**rounds):
    console = Console()
    for name, trip in rounds.items():
        assert console.do(f"round {name} {trip}") == "put"
    return console


class Case(unittest.TestCase):
    def check(self, console, line, expected):
        with self.subTest(line=line):
            found = console.do(line)
            self.assertIs(type(found), str)
            self.assertEqual(found, expected)

    def check_steady(self, console, line, expected):
        """Check an answer, given by position and by name, of a line that changes nothing."""
        names = console.names
        with self.subTest(line=line):
            self.check(console, line, expected)
            self.assertEqual(console.do(line=line), expected)
            self.assertEqual(console.names, names)


class Putting(Case):
    def test_put(self):
        console = Console()
        self.assertEqual(console.names, ())
        for name in ("a", "z", "b9", "abcdefgh", "a1234567", "q0z"):
            self.check(console, f"round {name} {ONE}", "put")
            self.check(console, f"steps {name}", "2")
        self.assertEqual(console.names, ("a", "a1234567", "abcdefgh", "b9", "q0z", "z"))
        self.assertIs(type(console.names), tuple)

    def test_in_the_place_of_another_one(self):
        console = console_with(a=ONE, b=ONE)
        self.check(console, "round a levels 7 end -3 dark", "put")
        self.check(console, "steps a", "3")
        self.assertEqual(console.names, ("a", "b"))

    def test_no_name(self):
        console = console_with(a=ONE)
        for name in ("A", "1", "1a", "aB", "a_b", "a-b", "abcdefghi", "abcdefgh1", "a.", "-", "_", "a\n", "\n", "a\tb", ":",
                     "undoundo9"):
            # A name is told ahead of the round.
            for text in (ONE, "x", " ", ONE + " "):
                self.check_steady(console, f"round {name} {text}", "no name")

    def test_no_round(self):
        console = console_with(a=ONE)
        self.check_steady(console, f"round {ONE}", "no round")
        for text in ("x", " ", "  ", " " + ONE, ONE + " ", ONE + "\n", "\n", "levels 4 end 0 dark", "levels 2 end 0 Dark",
                     "levels 2 end 01 dark", "levels 2 end -0 dark", "levels 2 end +1 dark", "levels 2 end 0",
                     "levels 2 end 0 lamps", "levels 2 end 0 lamps 0:2", "levels 2 end 0 lamps 1:1 0:1", "a", "0",
                     "levels  2 end 0 dark", ONE + "\n" + ONE, "a " + ONE):
            for name in ("a", "b"):
                self.check_steady(console, f"round {name} {text}", "no round")
        self.check(console, "steps a", "2")

    def test_a_round_that_is_no_round_of_a_lot(self):
        full = " ".join(f"{place}:6" for place in range(400))
        console = console_with(a=f"levels 7 end {BIG} lamps {full}")
        self.check_steady(console, "steps a", str(BIG + 2400))

    def test_no_such_line(self):
        console = console_with(a=ONE, b=ONE)
        for line in ("round", "round ", "round a", "round a ", "round  a " + ONE, " round a " + ONE, "Round a " + ONE,
                     "rounds a " + ONE, "round  ", "round   ", "round\na " + ONE, "rounda " + ONE):
            self.check_steady(console, line, "no such line")


class Dropping(Case):
    def test_dropped(self):
        console = console_with(a=ONE, b=ONE)
        self.check(console, "drop a", "dropped")
        self.assertEqual(console.names, ("b",))
        self.check_steady(console, "drop a", "no such round")
        self.check_steady(console, "steps a", "no such round")
        self.check(console, "drop b", "dropped")
        self.assertEqual(console.names, ())

    def test_no_such_round(self):
        console = console_with(a=ONE)
        for name in ("b", "A", "aa", "1", "-", "a\n", "undo", ONE.replace(" ", ""), "abcdefghijk"):
            self.check_steady(console, f"drop {name}", "no such round")

    def test_no_such_line(self):
        console = console_with(a=ONE, b=ONE)
        for line in ("drop", "drop ", "drop  a", " drop a", "drop a ", "drop a b", "drop a a", "drop  ", "Drop a", "drops a",
                     "dropa", "drop\ta"):
            self.check_steady(console, line, "no such line")


class Taking(Case):
    def test_step_by_step_to_the_first_one(self):
        console = Console()
        self.check_steady(console, "undo", "nothing")
        for line in (f"round a {ONE}", "round b levels 2 end 3 dark", "round a levels 5 end 0 dark", "drop a", "drop b",
                     "round c levels 3 end 7 dark"):
            self.assertIn(console.do(line), ("put", "dropped"))
        for names, asked, answer in ((((), "steps b", "no such round")), (("b",), "steps b", "3"),
                                     (("a", "b"), "steps a", "0"), (("a", "b"), "steps a", "2"),
                                     (("a",), "steps a", "2"), ((), "steps a", "no such round")):
            self.check(console, "undo", "undone")
            self.assertEqual(console.names, names)
            self.check(console, asked, answer)
        self.check_steady(console, "undo", "nothing")

    def test_what_is_refused_is_not_taken_back(self):
        console = console_with(a=ONE)
        for line in ("round b x", "round B " + ONE, "drop b", "drop a ", "steps a", "nothing", "", "undo ", " undo",
                     "made a a", "undo undo"):
            console.do(line)
        self.check(console, "undo", "undone")
        self.assertEqual(console.names, ())
        self.check(console, "undo", "nothing")

    def test_a_doing_behind_one_that_was_taken_back(self):
        console = console_with(a=ONE, b=ONE)
        self.check(console, "undo", "undone")
        self.check(console, "round c levels 2 end 5 dark", "put")
        self.check(console, "undo", "undone")
        self.assertEqual(console.names, ("a",))
        self.check(console, "undo", "undone")
        self.check(console, "undo", "nothing")

    def test_equal_puttings_count(self):
        console = console_with(a=ONE)
        console.do(f"round a {ONE}")
        self.check(console, "undo", "undone")
        self.assertEqual(console.names, ("a",))
        self.check(console, "undo", "undone")
        self.assertEqual(console.names, ())

    def test_no_such_line(self):
        console = console_with(a=ONE)
        for line in ("undo ", " undo", "undo a", "Undo", "undo\n", "undoundo", "und", "undo  "):
            self.check_steady(console, line, "no such line")


class Asking(Case):
    def test_drawn_rounds(self):
        draw = random.Random(1)
        for levels in LEVELS:
            for size, end in ((3, 2), (40, 40), (BIG, BIG), (9, 0)):
                trip, second = drawn(draw, levels, 5, size, end), drawn(draw, levels, 5, size, end)
                second = draw.choice((second, often(trip, 1), Round(levels, second.lamps, trip.end)))
                console = console_with(a=trip.text, b=second.text)
                self.check_steady(console, "steps a", str(steps(trip)))
                self.check_steady(console, "order b", "none" if order(second) is None else str(order(second)))
                self.check_steady(console, "alike a b", "yes" if is_alike(trip, second) else "no")
                self.check_steady(console, "alike a a", "yes")
                for times in (0, 1, -1, 7, -BIG, BIG):
                    for place in (0, -1, trip.end * times, trip.end * (times - 1), BIG):
                        self.check_steady(console, f"level a {times} {place}", str(level_after(trip, times, place)))

    def test_orders(self):
        console = console_with(a="levels 7 end 0 lamps 3:5", b="levels 7 end 0 dark", c="levels 7 end -1 dark")
        for name, answer in (("a", "7"), ("b", "1"), ("c", "none")):
            self.check_steady(console, f"order {name}", answer)

    def test_alike_with_unlike_levels(self):
        console = console_with(**{f"l{levels}": f"levels {levels} end 0 dark" for levels in LEVELS})
        for first in LEVELS:
            for second in LEVELS:
                self.check_steady(console, f"alike l{first} l{second}", "yes" if first == second else "no")

    def test_numbers_of_level(self):
        console = console_with(a=ONE)
        self.check_steady(console, "level a 100 99", "1")
        self.check_steady(console, "level a 100 100", "0")
        self.check_steady(console, f"level a {BIG} {BIG - 1}", "1")
        self.check_steady(console, "level a -3 -3", "1")
        for number in ("01", "-0", "+1", "1.0", "1_0", "x", "--1", "-", "00", "-01", "1-", "0x1", "1e3", "\n1", "1\n", ""):
            for line in (f"level a {number} 0", f"level a 0 {number}", f"level a {number} {number}",
                         f"level b {number} 0", f"level b 0 {number}"):
                self.check_steady(console, line, "no such line")
        for line in ("level b 1 2", "level A 0 -5", "level 1 2 3"):
            self.check_steady(console, line, "no such round")

    def test_made_and_cosets(self):
        draw = random.Random(2)
        seen = {}
        for levels in LEVELS:
            for many in (1, 2, 3, 4):
                for _ in range(6):
                    lot = drawn_lot(draw, levels, [draw.choice((0, 1, 2, -4)) for _ in range(many)], 3, 2)
                    trip = draw.choice((drawn(draw, levels, 4, 2, 2), lot.rounds[0], Round(levels, (), 40),
                                        Round(levels, (), 41)))
                    rounds = {f"a{at}": one.text for at, one in enumerate(lot.rounds)}
                    console = console_with(x=trip.text, **rounds)
                    names = " ".join(rounds)
                    answer = "too far" if trip.end == 41 else "yes" if makes(lot, trip) else "no"
                    number = "endless" if cosets(lot) is None else str(cosets(lot))
                    self.check_steady(console, f"made x {names}", answer)
                    self.check_steady(console, f"cosets {names}", number)
                    seen[answer] = seen.get(answer, 0) + 1
                    seen[number == "endless"] = seen.get(number == "endless", 0) + 1
        self.assertGreater(min(seen.values()), 8)
        self.assertEqual(len(seen), 5)

    def test_the_largest(self):
        draw = random.Random(3)
        lot = largest_lot(draw, 7, (8, 7, -6, 5))
        console = console_with(**{name: trip.text for name, trip in zip("abcd", lot.rounds)})
        self.check_steady(console, "made a b c d", "yes" if makes(Lot(lot.rounds[1:]), lot.rounds[0]) else "no")
        self.check_steady(console, "cosets b c d a", str(cosets(Lot(lot.rounds))))

    def test_order_of_answers(self):
        console = console_with(a=ONE, b="levels 3 end 0 dark", c="levels 2 end 9 dark", f="levels 2 end 41 dark",
                               g=f"levels 3 end 0 lamps {BIG}:1")
        for line, answer in (
                ("made a z", "no such round"), ("made z a", "no such round"), ("made z z", "no such round"),
                ("made a b z", "no such round"), ("made f a a a a a z", "no such round"), ("made f c z", "no such round"),
                ("cosets z", "no such round"), ("cosets a b z", "no such round"), ("cosets a a a a a z", "no such round"),
                ("made a a b", "no lot"), ("made f a b", "no lot"), ("made f c", "no lot"), ("made f f", "no lot"),
                ("made a a a a a a", "no lot"), ("made f a a a a a", "no lot"), ("cosets c", "no lot"),
                ("cosets a b", "no lot"), ("cosets a a a a a", "no lot"), ("cosets f a", "no lot"), ("cosets g", "no lot"),
                ("made f a", "too far"), ("made g a", "too far"), ("made f b", "too far"), ("made f a a a a", "too far"),
                ("made b a", "no"), ("made a b", "no"), ("made a a a a a", "yes"), ("made c a", "no"),
                ("alike a z", "no such round"), ("alike z a", "no such round"), ("alike f g", "no"),
                ("cosets b", "endless"), ("cosets a a", "endless")):
            self.check_steady(console, line, answer)

    def test_signs_put_in_and_left_out(self):
        console = console_with(a=ONE, b=ONE)
        right = ("steps a", "order a", "level a 1 0", "alike a b", "made a b", "made a a b", "cosets a", "cosets a b",
                 "undo")
        for line in right[:-1]:
            self.assertNotIn(console.do(line), ("no such line", "no such round"))
        for line in right:
            for changed in (line + " ", " " + line, line + "\n", line.upper(), line.replace(" ", "  "), line + "  ",
                            line.replace(" ", "\t"), line.replace(" ", "")):
                if changed in right:
                    continue
                # A newline is no space, so it is a sign of a name or of a number.
                name_behind = changed.endswith("\n") and line.split(" ")[0] not in ("undo", "level")
                self.check_steady(console, changed, "no such round" if name_behind else "no such line")
        for line in ("steps", "order", "alike", "made", "cosets", "level", "steps ", "alike a", "alike a ", "made a",
                     "made a ", "cosets ", "level a", "level a 1", "level a 1 2 3", "steps a b", "order a a", "alike a b a",
                     "made  a b", "made a  b", "cosets  a", "cosets a  b", "level  a 1 0", "level  1 0", "level a  1 0", "level a 1  0",
                     "", " ", "\n", "a", "step a", "orders a", "make a b", "coset a", "levels a 1 0", ONE, "put", "names"):
            self.check_steady(console, line, "no such line")

    def test_all_single_changes_of_lines(self):
        # A string comes for each string, and nothing but the lines told changes anything.
        console = console_with(a=ONE, b="levels 3 end 0 dark")
        for line in ("level a 10 -2", "made a b", "alike a b", "cosets a"):
            for at in range(len(line) + 1):
                for sign in ("", " ", "0", "a", "z", "-", "\n", "1"):
                    for changed in (line[:at] + sign + line[at:], line[:at] + sign + line[at + 1:]):
                        names = console.names
                        self.assertIs(type(console.do(changed)), str)
                        self.assertEqual(console.names, names)


class Consoles(Case):
    def test_two_by_turns(self):
        draw = random.Random(4)
        consoles = [Console(), Console()]
        pasts = [[{}], [{}]]
        texts = [ONE, "levels 2 end 2 dark", "levels 3 end 0 lamps -1:2", f"levels 2 end {BIG} lamps 0:1 9:1"]
        names = ["a", "b", "c9", "d"]
        for _ in range(1500):
            at = draw.randrange(2)
            console, past = consoles[at], pasts[at]
            rounds = past[-1]
            name, text, deed = draw.choice(names), draw.choice(texts), draw.random()
            if deed < 0.25:
                self.check(console, f"round {name} {text}", "put")
                past.append({**rounds, name: text})
            elif deed < 0.4:
                self.check(console, f"drop {name}", "dropped" if name in rounds else "no such round")
                if name in rounds:
                    past.append({other: trip for other, trip in rounds.items() if other != name})
            elif deed < 0.65:
                self.check(console, "undo", "undone" if len(past) > 1 else "nothing")
                if len(past) > 1:
                    past.pop()
            else:
                some = [draw.choice(names) for _ in range(draw.randint(1, 5))]
                expected = "no such round"
                if all(one in rounds for one in some):
                    lot = outcome(Lot, tuple(Round.read(rounds[one]) for one in some))
                    expected = "no lot" if isinstance(lot, tuple) and lot[0] is InvalidRounds else None
                    expected = expected or ("endless" if cosets(lot) is None else str(cosets(lot)))
                self.check(console, "cosets " + " ".join(some), expected)
            for console, past in zip(consoles, pasts):
                self.assertEqual(console.names, tuple(sorted(past[-1])))
                for one, text in past[-1].items():
                    self.assertEqual(console.do(f"steps {one}"), str(steps(Round.read(text))))

    def test_not_equal(self):
        console = Console()
        self.assertIs(console == Console(), False)
        self.assertIs(console != Console(), True)
        self.assertIs(bool(console), True)
        for value in ANYTHING:
            if type(value).__module__ != "helpers":
                self.assertIs(console == value, False)
                self.assertIs(console != value, True)


if __name__ == "__main__":
    unittest.main()
