"""Forms of lots, the number of their cosets, which lots make the same, and which of their rounds are needless."""

import itertools
import random
import unittest

from helpers import (ENDS, NO_LOTS, Model, check_wrong, drawn_lot, drawn_model, has_form_lamps, largest_lot, model,
                     planned, told_by)
from lamprounds.doing import then, undone
from lamprounds.errors import NotLot
from lamprounds.forms import cosets, form, makes, needless, same, within
from lamprounds.limits import LEVELS
from lamprounds.lots import Lot
from lamprounds.plans import plan_for
from lamprounds.rounds import Round

# Lots by hand, by their texts, with their forms and the numbers of their cosets.
KNOWN = (
    ("levels 2 end 0 dark", (0, (), ()), None),
    ("levels 7 end 0 lamps 3:5", (0, (((3, 1),),), ()), None),
    ("levels 7 end 0 lamps -3:5 0:1 4:2", (0, (((-3, 1), (0, 3), (4, 6)),), ()), None),
    ("levels 5 end 0 lamps 0:1 1:1\nlevels 5 end 0 lamps 1:2 2:2\nlevels 5 end 0 lamps 0:1 2:4",
     (0, (((0, 1), (2, 4)), ((1, 1), (2, 1))), ()), None),
    ("levels 3 end 1 dark", (1, (), ()), None),
    ("levels 3 end -1 lamps 0:2", (1, (), ((1, 1),)), None),
    ("levels 3 end 4 lamps -1:1", (4, (), ((-1, 1),)), None),
    ("levels 3 end -8 dark\nlevels 3 end 0 dark", (8, (), ()), None),
    ("levels 3 end 5 lamps 0:1\nlevels 3 end -5 lamps -5:2", (5, (), ((0, 1),)), None),
    ("levels 2 end 1 dark\nlevels 2 end 0 lamps 24:1", (1, (((0, 1),),), ()), 1),
    ("levels 5 end 1 lamps 7:3\nlevels 5 end 0 lamps -24:2", (1, (((0, 1),),), ()), 1),
    ("levels 5 end 1 dark\nlevels 5 end 0 lamps -24:2 24:2", (1, (((0, 1), (48, 1)),), ()), 5 ** 48),
    ("levels 5 end 1 lamps 0:3\nlevels 5 end 0 lamps -3:1 -2:4", (1, (((0, 4), (1, 1)),), ((0, 3),)), 5),
    ("levels 2 end 2 lamps 3:1\nlevels 2 end 0 lamps 1:1", (2, (((1, 1),),), ()), None),
    ("levels 2 end 2 dark\nlevels 2 end 0 lamps 1:1\nlevels 2 end 0 lamps 5:1 6:1", (2, (((0, 1),), ((1, 1),)), ()), 2),
    ("levels 7 end 2 lamps 0:2\nlevels 7 end 0 lamps 0:1 1:1\nlevels 7 end 0 lamps 1:3 5:3",
     (2, (((0, 1), (1, 1)), ((1, 1), (5, 1))), ((1, 5),)), 2 * 7 ** 2),
    ("levels 3 end 3 dark\nlevels 3 end 0 lamps 0:1\nlevels 3 end 0 lamps 1:1\nlevels 3 end 0 lamps 2:1",
     (3, (((0, 1),), ((1, 1),), ((2, 1),)), ()), 3),
    ("levels 7 end 3 dark\nlevels 7 end 0 lamps -24:1 24:6\nlevels 7 end 0 lamps -23:1 22:6\nlevels 7 end 0 lamps -22:1 "
     "23:6", (3, (((0, 6), (48, 1)), ((1, 6), (46, 1)), ((2, 6), (47, 1))), ()), 3 * 7 ** 46),
    ("levels 2 end 6 dark\nlevels 2 end -4 dark\nlevels 2 end 8 lamps 0:1", (2, (((0, 1),),), ()), None),
    ("levels 2 end 3 dark\nlevels 2 end 5 lamps 0:1", (1, (((0, 1), (1, 1), (2, 1)),), ((1, 1),)), 4),
)


def drawn_lots(seed, many, most=6):
    draw = random.Random(seed)
    for levels in LEVELS:
        for ends in ENDS:
            for _ in range(many):
                yield draw, drawn_lot(draw, levels, ends, draw.randint(0, most), draw.choice((1, 4, 24)))


def large_lots(seed):
    draw = random.Random(seed)
    for levels in LEVELS:
        for ends in ENDS:
            yield draw, largest_lot(draw, levels, ends)


def small_enough(trip):
    return all(abs(place) <= 24 for place in trip.lamps) and abs(trip.end) <= 8


def other_rounds(draw, lot):
    """Lots that make what the lot makes, with names of how they were come to."""
    rounds = lot.rounds
    models = [model(trip) for trip in rounds]
    at, by = draw.randrange(len(rounds)), draw.randrange(len(rounds))
    yield "another order", tuple(draw.sample(rounds, len(rounds)))
    yield "turned", rounds[at:] + rounds[:at]
    places = [("one undone", models[at].undone())]
    if at != by:
        places.append(("one behind another", models[by].often(draw.choice((-1, 1))).then(models[at])))
    for how, one in places:
        if small_enough(one):
            yield how, rounds[:at] + (one.round(),) + rounds[at + 1:]
    if len(rounds) < 4:
        yield "the still one more", rounds + (Round(lot.levels, (), 0),)
        yield "an equal one more", (rounds[at],) + rounds
        plan = [(draw.randrange(len(rounds)), draw.choice((-2, -1, 1, 2))) for _ in range(3)]
        for many in (3, 2, 1):
            made = planned(lot, plan[:many])
            if small_enough(made):
                yield "one more that is made", rounds + (made.round(),)


class Form(unittest.TestCase):
    def check(self, lot):
        """Check that a form has such lamps, and that it tells just of what the lot makes."""
        found = form(lot)
        with self.subTest(lot=lot.text):
            self.assertIs(type(found), tuple)
            self.assertIs(type(found[1]), tuple)
            self.assertEqual(form(lot=lot), found)
            self.assertTrue(has_form_lamps(lot.levels, found), found)
            # All that is told can be made of these by doing and undoing, so nothing more is told than is made.
            for picture, end in [(row, 0) for row in found[1]] + [(found[2], found[0])]:
                plan = plan_for(lot, Round(lot.levels, picture, end))
                self.assertEqual(planned(lot, plan).parts(), (lot.levels, picture, end))
            for trip in lot.rounds:
                self.assertTrue(told_by(found, model(trip)))

    def test_drawn(self):
        for _, lot in drawn_lots(1, 2):
            self.check(lot)

    def test_the_largest(self):
        for _, lot in large_lots(2):
            self.check(lot)

    def test_steps(self):
        for _, lot in drawn_lots(3, 1):
            ends = [abs(trip.end) for trip in lot.rounds]
            steps = [step for step in range(1, 9) if all(end % step == 0 for end in ends)]
            self.assertEqual(form(lot)[0], max(steps) if any(ends) else 0)

    def test_known(self):
        for text, expected, _ in KNOWN:
            with self.subTest(text=text):
                self.assertEqual(form(Lot.read(text)), expected)
                self.assertTrue(has_form_lamps(Lot.read(text).levels, expected))

    def test_lots_that_make_the_same(self):
        seen = set()
        for draw, lot in itertools.chain(drawn_lots(4, 3), large_lots(5)):
            expected = form(lot)
            for how, rounds in other_rounds(draw, lot):
                seen.add(how)
                with self.subTest(lot=lot.text, how=how, rounds=rounds):
                    self.assertEqual(form(Lot(rounds)), expected)
                    self.assertIs(same(lot, Lot(rounds)), True)
                    self.assertIs(within(lot, Lot(rounds)), True)
                    self.assertIs(within(Lot(rounds), lot), True)
        self.assertEqual(len(seen), 7)

    def test_wrong_arguments(self):
        for call in (form, cosets, needless):
            check_wrong(self, call, ("lot",), (Lot((Round(2, (), 0),)),), ((NotLot, NO_LOTS),))


class Cosets(unittest.TestCase):
    def test_known(self):
        for text, _, expected in KNOWN:
            with self.subTest(text=text):
                self.assertEqual(cosets(Lot.read(text)), expected)
                self.assertEqual(cosets(lot=Lot.read(text)), expected)

    def test_as_the_form_tells(self):
        numbers = []
        for _, lot in itertools.chain(drawn_lots(6, 4), large_lots(7)):
            step, rows, _ = form(lot)
            expected = None
            if step and len(rows) == step:
                expected = step
                for lead, row in enumerate(rows):
                    places = [place for place, _ in row if place % step == lead]
                    expected *= lot.levels ** ((max(places) - min(places)) // step)
            with self.subTest(lot=lot.text):
                self.assertEqual(cosets(lot), expected)
            numbers.append(expected or 0)
        self.assertGreater(max(numbers), 7 ** 20)
        self.assertGreater(numbers.count(0), 100)

    def test_by_trying_all_rounds_near_by(self):
        draw = random.Random(8)
        found = []
        while len(found) < 25:
            levels = draw.choice((2, 2, 3))
            lot = drawn_lot(draw, levels, draw.choice(((1, 0), (-1, 2), (2, 0, 0), (3, 5), (4, -6, 2), (3, 0, 0, 0))),
                            4, draw.choice((2, 4)))
            number = cosets(lot)
            step, rows, _ = form(lot)
            last = max([place for row in rows for place, _ in row], default=0)
            if number is None or last > (6 if levels == 2 else 3):
                continue
            firsts = []
            for pressed in itertools.product(range(levels), repeat=last + 2):
                for end in range(step + 1):
                    trip = Model(levels, enumerate(pressed), end).round()
                    if not any(makes(lot, then(undone(first), trip)) for first in firsts):
                        firsts.append(trip)
                        # More than there are would take long to be told one by one.
                        self.assertLessEqual(len(firsts), number, lot.text)
            self.assertEqual(len(firsts), number, lot.text)
            found.append(number)
        self.assertGreater(len(set(found)), 6)


class SameAndWithin(unittest.TestCase):
    def test_against_plans(self):
        counts = {}
        draw = random.Random(9)
        for levels in (2, 3, 7):
            for _ in range(150):
                ends = draw.choice(((1, 0), (0, 0), (2, 0), (2, 4), (1, 1), (0,), (2,)))
                lot, other = [drawn_lot(draw, levels, ends, 2, 1) for _ in range(2)]
                inside = all(told_by(form(other), model(trip)) for trip in lot.rounds)
                around = all(told_by(form(lot), model(trip)) for trip in other.rounds)
                counts[inside, around] = counts.get((inside, around), 0) + 1
                with self.subTest(lot=lot.text, other=other.text):
                    self.assertIs(within(lot, other), inside)
                    self.assertIs(within(other=other, lot=lot), inside)
                    self.assertIs(within(other, lot), around)
                    self.assertIs(same(lot, other), inside and around)
                    self.assertIs(same(other=other, lot=lot), inside and around)
        self.assertGreater(min(counts.values()), 20)
        self.assertEqual(len(counts), 4)

    def test_a_round_left_out(self):
        for draw, lot in drawn_lots(10, 1):
            if len(lot) > 1:
                at = draw.randrange(len(lot))
                fewer = Lot(lot.rounds[:at] + lot.rounds[at + 1:])
                needed = at not in needless(lot)
                with self.subTest(lot=lot.text, at=at):
                    self.assertIs(within(fewer, lot), True)
                    self.assertIs(within(lot, fewer), not needed)
                    self.assertIs(same(fewer, lot), not needed)

    def test_unlike_levels(self):
        for first, second in itertools.permutations(LEVELS, 2):
            for lamps, end in (((), 0), ((), 1), (((0, 1),), 0), (((0, 1),), -2)):
                lot, other = Lot((Round(first, lamps, end),)), Lot((Round(second, lamps, end),))
                self.assertIs(same(lot, other), False)
                self.assertIs(within(lot, other), False)

    def test_wrong_arguments(self):
        lot = Lot((Round(2, (), 0),))
        for call in (same, within):
            for other in (lot, Lot((Round(3, (), 0),))):
                check_wrong(self, call, ("lot", "other"), (lot, other), ((NotLot, NO_LOTS), (NotLot, NO_LOTS)))


class Needless(unittest.TestCase):
    def test_single_rounds(self):
        for levels in LEVELS:
            self.assertEqual(needless(Lot((Round(levels, (), 0),))), (0,))
            for lamps, end in (((), 1), ((), -8), (((0, 1),), 0), (((-24, 1), (24, levels - 1)), 3)):
                self.assertEqual(needless(Lot((Round(levels, lamps, end),))), ())
                self.assertEqual(needless(lot=Lot((Round(levels, lamps, end),))), ())

    def test_told(self):
        one, still, press = Round(2, ((0, 1),), 1), Round(2, (), 0), Round(2, ((0, 1),), 0)
        step = Round(2, (), 1)
        for rounds, expected in (((one, one), (0, 1)), ((one, still), (1,)), ((still, still), (0, 1)),
                                 ((one, press, step), (0, 1, 2)), ((press, step), ()), ((step, press, press), (1, 2)),
                                 ((one, undone(one), then(one, one)), (0, 1, 2)), ((then(one, one), one), (0,)),
                                 ((Round(2, (), 3), Round(2, (), 2), Round(2, (), 6)), (2,)),
                                 ((Round(2, (), 6), Round(2, (), 4), Round(2, (), 2), still), (0, 1, 2, 3))):
            self.assertEqual(needless(Lot(rounds)), expected)

    def test_drawn(self):
        draw = random.Random(11)
        counts = [0] * 5
        for levels in LEVELS:
            for _ in range(100):
                lot = drawn_lot(draw, levels, draw.choice(ENDS), 2, draw.choice((0, 1, 3)))
                expected = []
                for at, trip in enumerate(lot.rounds):
                    others = lot.rounds[:at] + lot.rounds[at + 1:]
                    if told_by(form(Lot(others)), model(trip)) if others else not trip.lamps and trip.end == 0:
                        expected.append(at)
                counts[len(expected)] += 1
                with self.subTest(lot=lot.text):
                    self.assertEqual(needless(lot), tuple(expected))
        self.assertGreater(min(counts), 3)


class AllThatIsMade(unittest.TestCase):
    def test_all_short_plans_of_small_lots(self):
        # What plans of few doings come to is told by the form, and what is far from it in one lamp is often not.
        draw = random.Random(12)
        for levels in (2, 3):
            for ends in ((1,), (0, 0), (1, 0), (2, -3), (2, 0, 0), (3, 3)):
                lot = drawn_lot(draw, levels, ends, 3, 2)
                found = form(lot)
                latest = {Model(levels, {}, 0).parts()}
                for _ in range(5):
                    behind = set()
                    for parts in latest:
                        for trip in lot.rounds:
                            for one in (model(trip), model(trip).undone()):
                                behind.add(Model(*parts).then(one).parts())
                    latest = set(sorted(behind)[:60])
                    for parts in behind:
                        with self.subTest(lot=lot.text, parts=parts):
                            self.assertTrue(told_by(found, Model(*parts)))
                            self.assertIs(makes(lot, Round(*parts)), True)

    def test_the_test_itself(self):
        # The ways by which the tests tell forms are right in simple cases.
        self.assertTrue(told_by((1, (((0, 1),),), ()), Model(2, {5: 1}, -3)))
        self.assertFalse(told_by((1, (), ((0, 1),)), Model(2, {5: 1}, 1)))
        self.assertFalse(told_by((2, (((0, 1),),), ()), Model(2, {}, 1)))
        self.assertFalse(told_by((0, (((0, 1),),), ()), Model(2, {1: 1}, 0)))
        self.assertFalse(has_form_lamps(3, (1, (((0, 1), (1, 2)),), ())))
        self.assertFalse(has_form_lamps(3, (1, (((1, 1),),), ())))
        self.assertFalse(has_form_lamps(3, (1, (((0, 1),),), ((0, 1),))))
        self.assertFalse(has_form_lamps(3, (0, (((0, 2),),), ())))
        self.assertTrue(has_form_lamps(3, (2, (((0, 1), (1, 1)), ((1, 2), (3, 1))), ((1, 1),))))
        self.assertFalse(has_form_lamps(3, (2, (((0, 1), (3, 1)), ((1, 2), (3, 1))), ())))
        draw = random.Random(13)
        for levels in LEVELS:
            one = drawn_model(draw, levels, 4, 4, 3)
            self.assertTrue(told_by((1, (((0, 1),),), ()), one))


if __name__ == "__main__":
    unittest.main()
