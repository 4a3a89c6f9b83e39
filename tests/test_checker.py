"""The checker: it accepts just what is told of certificates, and raises nothing."""

import random
import unittest

import reference
from helpers import ANYTHING, ENDS, drawn, drawn_lot, drawn_model, largest_lot, outcome
from lamprounds.certificates import certify_alike, certify_made, certify_root, certify_same, certify_steps
from lamprounds.checker import accepts
from lamprounds.doing import often
from lamprounds.forms import form, makes
from lamprounds.limits import LEVELS
from lamprounds.lots import Lot
from lamprounds.rounds import Round

BIG = 10 ** 39 + 7
ONE = "levels 2 end 1 lamps 0:1"
PAIRS = "levels 2 end 2 dark\nlevels 2 end 0 lamps 0:1 1:1"
# A claim of each word with a right certificate.
RIGHT = (
    (("makes", PAIRS, "levels 2 end 0 lamps 2:1 3:1"), ((0, 1), (1, 1), (0, -1))),
    (("misses", PAIRS, ONE), (2, (((0, 1), (1, 1)),), ())),
    (("misses", PAIRS, "levels 3 end 0 dark"), ()),
    (("misses", "levels 3 end 0 lamps 0:1 1:2", "levels 3 end 0 lamps 1:1"), (0, (((0, 1), (1, 2)),), ())),
    (("same", PAIRS, "levels 2 end 0 lamps 0:1 1:1\nlevels 2 end -2 dark"),
     ((((1, 1),), ((0, -1),)), (((1, -1),), ((0, 1),)))),
    (("alike", ONE, "levels 2 end 1 lamps 5:1"), "levels 2 end 5 dark"),
    (("root", "levels 2 end 3 lamps 0:1 1:1 2:1", 3), ONE),
    (("steps", ONE, 2), "+>"),
)


def drawn_rights(seed, many):
    """Claims with right certificates, of drawn lots and rounds that are not large."""
    draw = random.Random(seed)
    for levels in LEVELS:
        for _ in range(many):
            ends = draw.choice(((1, 0), (0, 0), (2, 0), (2, 4), (3,), (0,), (-1, 2), (1, 0, 0), (2, 0, -2, 0)))
            lot = drawn_lot(draw, levels, ends, 2, 2)
            yield certify_made(lot, drawn(draw, levels, 2, 2, 2))
            yield certify_made(lot, draw.choice(lot.rounds))
            yield certify_made(lot, drawn(draw, draw.choice(LEVELS), 1, 1, 1))
            yield certify_same(lot, Lot(lot.rounds[::-1]))
            one, between = drawn_model(draw, levels, 3, 4, 3), drawn_model(draw, levels, 3, 4, 3)
            yield certify_alike(one.round(), between.then(one).then(between.undone()).round())
            times = draw.randint(1, 6)
            yield certify_root(one.often(times).round(), times)
            yield certify_steps(one.round())


def changed(draw, value):
    """A value that is another one in one place."""
    if isinstance(value, tuple) and value and draw.random() < 0.8:
        at = draw.randrange(len(value))
        kind = draw.randrange(10)
        if kind == 0:
            return value[:at] + value[at + 1:]
        if kind == 1:
            return value[:at] + value[at:at + 1] * 2 + value[at + 1:]
        if kind == 2:
            by = draw.randrange(len(value))
            swapped = list(value)
            swapped[at], swapped[by] = swapped[by], swapped[at]
            return tuple(swapped)
        return value[:at] + (changed(draw, value[at]),) + value[at + 1:]
    if isinstance(value, tuple):
        return draw.choice((list(value), (), None, value + (0,), value + ((0, 1),), value + ((),), (value,), "", 0))
    if isinstance(value, str) and value:
        at = draw.randrange(len(value))
        sign = draw.choice(("", "0", "1", "2", "3", "-", " ", "\n", ":", "<", ">", "+", value[at]))
        return draw.choice((value[:at] + sign + value[at + 1:], value[:at] + sign + value[at:], value[::-1], "", None,
                            value.replace("1", "2", 1), value.replace("0", "3", 1), (value,), value.encode()))
    if type(value) is int:
        return draw.choice((value + 1, value - 1, -value, value + 2, 0, 1, 1001, -1001, True, False, None, str(value),
                            (value,), 2 * value))
    return draw.choice((None, 0, (), "", True))


class Case(unittest.TestCase):
    def check(self, claim, certificate, expected):
        with self.subTest(claim=claim, certificate=certificate):
            self.assertIs(outcome(accepts, claim, certificate), expected)
            self.assertIs(outcome(accepts, certificate=certificate, claim=claim), expected)


class Changed(Case):
    def test_right_ones(self):
        for claim, certificate in RIGHT:
            self.check(claim, certificate, True)
            self.assertTrue(reference.accepts(claim, certificate))
        for found in drawn_rights(1, 10):
            if found is not None:
                self.check(*found, True)
                self.assertTrue(reference.accepts(*found))

    def test_changed_in_one_place_or_two(self):
        draw = random.Random(2)
        counts = {}
        for claim, certificate in list(RIGHT) * 20 + [found for found in drawn_rights(3, 8) if found is not None]:
            for _ in range(40):
                one, two = claim, certificate
                for _ in range(draw.choice((1, 1, 1, 2))):
                    if draw.random() < 0.4:
                        one = changed(draw, one)
                    else:
                        two = changed(draw, two)
                expected = reference.accepts(one, two)
                self.check(one, two, expected)
                counts[claim[0], expected] = counts.get((claim[0], expected), 0) + 1
        self.assertGreater(min(counts.values()), 40)
        self.assertEqual(len(counts), 12)

    def test_certificates_of_other_claims(self):
        rights = list(RIGHT) + [found for found in drawn_rights(4, 2) if found is not None]
        draw = random.Random(5)
        for _ in range(1500):
            claim, certificate = draw.choice(rights)[0], draw.choice(rights)[1]
            claim = (draw.choice(rights)[0][0],) + claim[1:]
            self.check(claim, certificate, reference.accepts(claim, certificate))


class Wrong(Case):
    def test_any_values(self):
        values = ANYTHING + (0, 1, ("makes",), ("makes", PAIRS), ("make", PAIRS, ONE), ("", "", ""), (None,) * 3, ((),) * 3,
                             ["makes", PAIRS, ONE], "makes", (("makes",), PAIRS, ONE), (b"makes", PAIRS, ONE))
        for value in values:
            for certificate in values + tuple(shown for _, shown in RIGHT):
                self.check(value, certificate, False)
        for claim, shown in RIGHT:
            for value in values:
                self.check(claim, value, isinstance(value, tuple) and value == shown)
                self.check(claim + (value,), shown, False)
                for at in range(3):
                    other = claim[:at] + (value,) + claim[at + 1:]
                    self.check(other, shown, reference.accepts(other, shown))
            self.check(claim[:2], shown, False)
            self.check(claim, [shown], False)
            self.check(claim, (shown,), False)
            self.check(list(claim), shown, False)

    def test_plans(self):
        (word, lot, trip), right = RIGHT[0]
        self.check((word, lot, trip), right, True)
        for pairs in ((), right[1:], right[:-1], right[::-1], right + ((0, 1),), right + ((2, 1),), right + ((0, 0),),
                      ((0, True), (1, 1), (0, -1)), ((False, 1), (1, 1), (0, -1)), ([0, 1], (1, 1), (0, -1)), list(right),
                      ((0, 1), (1, 1), (0, -1, 1)), ((0, 1), (1, 1), (0,)), (right, ()), ((0, 1), (1, 1001), (0, -1)),
                      ((0, 1), (1, 1), (-2, -1)), ((0, 1), (1, "1"), (0, -1)), ((0, 1001), (1, 1), (0, -1001))):
            self.check((word, lot, trip), pairs, False)
        # Others that come to the same round.
        for pairs in (((0, 1), (1, -1), (0, -1)), ((0, 1), (1, 999), (0, -1)), ((0, 3), (0, -2), (1, 1), (0, -1)),
                      ((0, 1000), (0, 1), (0, -1000), (1, 1), (0, -1))):
            self.check((word, lot, trip), pairs, True)
        self.check(("makes", lot, "levels 2 end 0 dark"), (), True)
        for pairs in (((0, 1000),) * 900, ((0, 1000), (1, 1)) * 300):
            self.check((word, lot, trip), pairs, False)
            self.check((word, lot, trip), pairs + tuple((index, -times) for index, times in pairs[::-1]) + right, True)

    def test_rounds_that_are_not_near(self):
        step = "levels 2 end 1 dark"
        self.check(("makes", step, "levels 2 end 40 dark"), ((0, 40),), True)
        self.check(("makes", step, "levels 2 end 41 dark"), ((0, 41),), False)
        self.check(("misses", step, "levels 2 end 0 lamps 40:1"), (1, (), ()), True)
        self.check(("misses", step, "levels 2 end 0 lamps 41:1"), (1, (), ()), False)
        self.check(("misses", step, "levels 3 end 41 dark"), (), False)
        self.check(("misses", step, f"levels 2 end 0 lamps {BIG}:1"), (1, (), ()), False)

    def test_forms(self):
        claim = ("misses", "levels 3 end 2 lamps 0:1\nlevels 3 end 0 lamps 1:1 3:2", "levels 3 end 2 dark")
        right = (2, (((1, 2), (3, 1)),), ((0, 1),))
        self.check(claim, right, True)
        self.assertEqual(form(Lot.read(claim[1])), right)
        # What tells more than is made, but not the round, is right, too.
        self.check(claim, (2, (((1, 1),),), ((0, 1),)), True)
        self.check(claim, (2, (((0, 1), (2, 2), (4, 1)), ((1, 1),)), ((0, 1),)), True)
        for wrong in ((2, (((0, 1),), ((1, 1),)), ()), (1, (((0, 1),),), ()), (2, (), ((0, 1),)), (4, right[1], ((0, 1),)),
                      (2, (((1, 1), (3, 2)),), ((0, 1),)), (2, (((3, 1), (5, 1)),), ((0, 1),)),
                      (2, (((1, 2), (3, 1)), ()), ((0, 1),)), (2, ((), ((1, 2), (3, 1))), ((0, 1),)),
                      (2, [((1, 2), (3, 1))], ((0, 1),)), (2, (((1, 2), (3, 1)),), [(0, 1)]),
                      (2, (((1, 2), (3, 1)),) * 2, ((0, 1),)), (2, (((1, 2), (3, 1)),), ((0, True),)),
                      (2, (((True, 2), (3, 1)),), ((0, 1),)), (2, (((3, 1), (1, 2)),), ((0, 1),)),
                      (2, (((1, 2), (3, 1)),), ((0, 1), (3, 1))), (2, (((1, 2), (3, 1)),), ((-1, 1), (0, 1))),
                      (2, (((1, 2), (3, 4)),), ((0, 1),)), (2, (((1, 2), (3, 1)),), ((0, 4),)), (-2,) + right[1:],
                      (True,) + right[1:], ("2",) + right[1:], right + ((),), right[:2], list(right), (right,),
                      (2, (((1, 2), (3, 1)),), None), (2, None, ((0, 1),)), (2, (((1, 2), (3, 1)), ((0, 1),)), ((0, 1),)),
                      (2, (((1, 1),), ((0, 1), (2, 1))), ()), (0, (), ()), (2, (((1, 2, 0), (3, 1)),), ((0, 1),)),
                      (2, (((1, 1), (3, 1)),), ((0, 1),)), (2, (((1, 2), (3, 1)),), ((0, 1), (1, 1)))):
            self.check(claim, wrong, False)
            self.assertFalse(reference.accepts(claim, wrong), wrong)

    def test_forms_that_tell_the_same_but_are_not_reduced(self):
        # Each of these tells just what the right one tells, but some lamps are not where they are in a form.
        claim = ("misses", "levels 3 end 2 lamps 0:1\nlevels 3 end 0 lamps 1:1 3:2", "levels 3 end 2 dark")
        row = ((1, 2), (3, 1))
        self.check(claim, (2, (row,), ((0, 1),)), True)
        for rows, rest in (((row,), ((-1, 2), (0, 1), (1, 1))), ((row,), ((0, 1), (1, 2), (3, 1))),
                           ((((-1, 2), (1, 1)),), ((0, 1),)), ((((3, 2), (5, 1)),), ((0, 1),)),
                           ((((1, 1), (3, 2)),), ((0, 1),)), ((row, row), ((0, 1),)),
                           ((row, ((1, 1), (3, 2))), ((0, 1),))):
            self.check(claim, (2, rows, rest), False)
        claim = ("misses", "levels 3 end 2 dark\nlevels 3 end 0 lamps 0:1 2:1\nlevels 3 end 0 lamps 1:2 5:1",
                 "levels 3 end 0 lamps 1:1")
        first, second = ((0, 1), (2, 1)), ((1, 2), (5, 1))
        self.check(claim, (2, (first, second), ()), True)
        for rows in ((second, first), (((-1, 2), (0, 1), (2, 1), (3, 1)), second),
                     (((0, 1), (1, 2), (2, 1), (5, 1)), second), (((0, 1), (2, 1), (3, 2), (7, 1)), second),
                     (((0, 1), (4, 2)), second), (first, ((1, 1), (5, 2))), (first, first, second)):
            self.check(claim, (2, rows, ()), False)
        claim = ("misses", "levels 3 end 0 lamps 0:1 2:1\nlevels 3 end 0 lamps 1:1", "levels 3 end 0 lamps 0:1")
        self.check(claim, (0, (((0, 1), (2, 1)), ((1, 1),)), ()), True)
        for rows in ((((0, 1), (1, 1), (2, 1)), ((1, 1),)), (((0, 1), (1, 2), (2, 1)), ((1, 1),)),
                     (((1, 1),), ((0, 1), (2, 1))), (((0, 2), (2, 2)), ((1, 1),)), (((0, 1), (2, 1)), ((1, 2),)),
                     (((0, 1), (2, 1)), ((1, 1),), ((1, 1),))):
            self.check(claim, (0, rows, ()), False)

    def test_forms_without_a_step(self):
        claim = ("misses", "levels 5 end 0 lamps -3:2 4:1\nlevels 5 end 0 lamps 0:3", "levels 5 end 0 lamps -3:1")
        self.check(claim, (0, (((-3, 1), (4, 3)), ((0, 1),)), ()), True)
        for wrong in ((0, (((-3, 1), (0, 2), (4, 3)), ((0, 1),)), ()), (0, (((0, 1),), ((-3, 1), (4, 3))), ()),
                      (0, (((-3, 2), (4, 1)), ((0, 1),)), ()), (0, (((-3, 1), (4, 3)), ((0, 1),)), ((0, 1),)),
                      (0, (((-3, 1),), ((0, 1),), ((4, 1),)), ()), (0, (((-3, 1), (4, 3)),), ()), (0, (), ()),
                      (0, (((-3, 1), (4, 3)), ((0, 1),)), []), (False, (((-3, 1), (4, 3)), ((0, 1),)), ()),
                      (0, (((-3, 1), (4, 3)), ((0, 1),)), None), (0, (((-3, 1), (4, 3)), (), ((0, 1),)), ())):
            self.check(claim, wrong, False)
        # Any end other than 0 is missed then, and a lot with one is not told.
        self.check(claim[:2] + ("levels 5 end 1 dark",), (0, (((-3, 1), (4, 3)), ((0, 1),)), ()), True)
        self.check(("misses", "levels 5 end 1 dark", "levels 5 end 0 lamps 0:1"), (0, (), ()), False)

    def test_forms_with_great_numbers(self):
        still, claim = "levels 3 end 0 dark", ("misses", "levels 3 end 0 dark", "levels 3 end 0 lamps 0:1")
        for step in (1, 2, 41, BIG):
            last = step * BIG
            row = ((0, 2), (last, 1))
            for rows in ((row,), (((0, 1), (step, 2), (last, 1)),)):
                self.check(claim, (step, rows, ()), True)
                self.check(claim, (step, rows, ((step * 5, 1), (last - step, 2))), True)
                self.check(claim, (step, rows, ((0, 1), (last, 1))), False)
            self.check(claim, (step, (((0, 1),),), ()), False)
            self.check(claim, (step, (row, ((1, 1), (1 + last, 1))), ((1, 1), (1 + last - step, 2))), step > 1)
        self.check(claim, (0, (((0, 1), (BIG, 2)),), ()), True)
        self.check(claim, (0, (((-BIG, 1), (0, 2)),), ()), True)
        # Done 40 times, one behind another, the rest has lamps that the row takes back to the beginning.
        rest = tuple((BIG * at + at, 1) for at in range(1, 50))
        row = tuple((BIG * at, 1) for at in range(60))
        for end in (-40, -1, 1, 40):
            self.check(("misses", still, f"levels 3 end {end} dark"), (1, (row,), rest), True)
        for end in (-40, 40):
            places = " ".join(f"{place}:1" for place in (range(-40, 0) if end < 0 else range(40)))
            word = "2" if end < 0 else "1"
            told = f"levels 3 end {end} lamps " + places.replace(":1", ":" + word)
            self.check(("misses", "levels 3 end 1 lamps 0:1", told), (1, (((0, 2), (BIG, 1)),), ((0, 1),)), False)
            self.check(("misses", "levels 3 end 1 lamps 0:1", f"levels 3 end {end} dark"),
                       (1, (((0, 2), (BIG, 1)),), ((0, 1),)), True)

    def test_unlike_levels(self):
        for certificate in (None, [], (0, (), ()), (2, (((0, 1), (1, 1)),), ()), "", 0, ((),)):
            self.check(("misses", PAIRS, "levels 3 end 0 dark"), certificate, False)
        self.check(("misses", PAIRS, ONE), (), False)
        self.check(("makes", PAIRS, "levels 3 end 0 dark"), (), False)
        self.check(("same", "levels 2 end 0 dark", "levels 3 end 0 dark"), (((),), ((),)), False)
        self.check(("same", "levels 2 end 0 dark", "levels 2 end 0 dark"), (((),), ((),)), True)
        self.check(("alike", "levels 2 end 0 dark", "levels 2 end 0 dark"), "levels 3 end 0 dark", False)
        self.check(("alike", "levels 2 end 0 dark", "levels 3 end 0 dark"), "levels 2 end 0 dark", False)
        self.check(("root", "levels 2 end 0 dark", 3), "levels 3 end 0 dark", False)

    def test_alike_and_roots_with_many_lamps(self):
        lamps = " ".join(f"{2 * place}:1" for place in range(400))
        more = " ".join(f"{2 * place + 1}:1" for place in range(400))
        one, two = f"levels 5 end {BIG} lamps {lamps}", f"levels 5 end {BIG} lamps {more}"
        self.check(("alike", one, two), "levels 5 end 1 dark", True)
        self.check(("alike", one, one), two, False)
        self.check(("alike", one, one), one, True)
        self.check(("root", one, 1), one, True)
        self.check(("root", one, 2), one, False)
        self.check(("root", f"levels 5 end {BIG ** 2} dark", BIG), f"levels 5 end {BIG} dark", True)
        self.check(("root", f"levels 5 end {BIG ** 2} dark", BIG + 1), f"levels 5 end {BIG} dark", False)
        self.check(("root", "levels 2 end 0 lamps 0:1", BIG), "levels 2 end 0 lamps 0:1", BIG % 2 == 1)
        for times in (0, -1, True, False, None, "1", (1,)):
            self.check(("root", ONE, times), ONE, False)
        self.check(("root", "levels 2 end 0 dark", 0), "levels 2 end 0 dark", False)
        self.check(("root", ONE, -1), "levels 2 end -1 lamps -1:1", False)

    def test_steps(self):
        for row, number, expected in (("+>", 2, True), ("<>+>", 4, True), (">+", 2, False), ("+>", 3, False),
                                      ("+>", True, False), ("+ >", 3, False), ("+>x", 3, False), ("", 0, False),
                                      ("+++>", 4, True), ("<>" * 1999 + "+>", 4000, True), ("<>" * 2000 + "+>", 4002, False),
                                      (b"+>", 2, False), (("+", ">"), 2, False), ("+>", "2", False), ("+>", -2, False)):
            self.check(("steps", ONE, number), row, expected)
        self.check(("steps", "levels 7 end 0 dark", 0), "", True)
        self.check(("steps", "levels 7 end 0 dark", False), "", False)
        self.check(("steps", "levels 7 end 1 dark", True), ">", False)
        self.check(("steps", "levels 7 end 1 dark", 1), ">", True)
        self.check(("steps", ONE, 4000), "+>" * 2000, False)


class Both(Case):
    def test_never_both(self):
        draw = random.Random(6)
        for levels in LEVELS:
            for ends in ENDS:
                lots = [drawn_lot(draw, levels, ends, 2, 1) for _ in range(2)] + [largest_lot(draw, levels, ends)]
                for lot in lots:
                    trip = draw.choice((drawn(draw, levels, 2, 2, 2), often(lot.rounds[0], 2)))
                    trip = trip if max([abs(place) for place, _ in trip.lamps], default=0) <= 40 else lot.rounds[0]
                    claim, certificate = certify_made(lot, trip)
                    self.check(claim, certificate, True)
                    made = makes(lot, trip)
                    self.assertEqual(claim[0], "makes" if made else "misses")
                    other = ("misses" if made else "makes",) + claim[1:]
                    shown = [certify_made(one, trip)[1] for one in lots] + [form(one) for one in lots]
                    for wrong in shown + [(1, (((0, 1),),), ()), (1, (), ()), (0, (), ()), (), ((0, 1),)]:
                        self.check(other, wrong, False)

    def test_the_claims_of_rounds_that_are_made(self):
        # No triple shows that a round is missed that is made, whatever it tells of lamps.
        draw = random.Random(7)
        lot = Lot((Round(2, ((0, 1),), 1), Round(2, (), 3)))
        claim = ("misses", lot.text, "levels 2 end 3 dark")
        for _ in range(2000):
            rows = tuple(tuple((place, 1) for place in range(draw.randint(0, 1), draw.randint(1, 6))
                               if draw.random() < 0.7) for _ in range(draw.randint(0, 2)))
            rest = tuple((place, 1) for place in range(draw.randint(0, 4)) if draw.random() < 0.6)
            self.check(claim, (draw.randint(0, 3), rows, rest), False)


if __name__ == "__main__":
    unittest.main()
