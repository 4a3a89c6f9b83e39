"""Roots of rounds: what is told does it, and nothing is told exactly if there is none."""

import itertools
import random
import unittest

from helpers import NO_NUMBERS, NO_ROUNDS, Model, check_wrong, drawn, drawn_model, model, outcome
from lamprounds.doing import often
from lamprounds.errors import InvalidNumber, NotRound, TooMany
from lamprounds.likeness import root
from lamprounds.limits import LEVELS
from lamprounds.rounds import Round

BIG = 10 ** 26 + 9
# Numbers of times of up to 27 digits, some of them divided by each of the levels.
TIMES = (1, 2, 3, 4, 5, 6, 7, 12, 35, 49, 210, 1000, BIG, BIG + 1, 210 * 10 ** 24, 10 ** 26 - 1)


def has_root(trip, times):
    """Whether some round is the model if it is done so many times, by trying all lamps between those of the model."""
    if trip.end % times != 0:
        return False
    places = list(trip.lamps) or [0]
    between = range(min(places) - 1, max(places) + 2)
    # The outermost lamps of a root stay, each one in the first or in the last doing, so none lies further out.
    tried = itertools.product(range(trip.levels), repeat=len(between))
    return any(Model(trip.levels, zip(between, levels), trip.end // times).often(times).parts() == trip.parts()
               for levels in tried)


class Root(unittest.TestCase):
    def check(self, trip, times):
        """Check what is told as a root, if a number of times can be gone through."""
        for found in (root(trip, times), root(times=times, trip=trip)):
            if found is not None:
                with self.subTest(trip=trip.text, times=times):
                    self.assertIs(type(found), Round)
                    self.assertEqual(model(found).often(times).parts(), (trip.levels, trip.lamps, trip.end))
        return found is not None

    def test_by_trying(self):
        draw = random.Random(1)
        counts = [0, 0]
        for levels, width, many in ((2, 5, 150), (3, 3, 100), (5, 1, 30), (7, 1, 30)):
            for _ in range(many):
                start, times = draw.randint(-6, 3), draw.choice((1, 2, 2, 3, 3, 4, 5, 6, 7))
                lamps = tuple((start + at, level) for at in range(width + 1) if (level := draw.randrange(levels)))
                trip = Round(levels, lamps, draw.choice((0, 1, -1, 2, -2, times, -times, 2 * times, -2 * times)))
                expected = has_root(model(trip), times)
                counts[expected] += 1
                with self.subTest(trip=trip.text, times=times):
                    self.assertIs(self.check(trip, times), expected)
        self.assertGreater(min(counts), 30)

    def test_rounds_done_often(self):
        draw = random.Random(2)
        for levels in LEVELS:
            for size, end in ((5, 3), (4, 0), (2, 9), (30, 30), (BIG, 3), (BIG, BIG), (3, BIG)):
                for times in (1, 2, 3, 4, 5, 6, 7, 9, 14):
                    one = drawn_model(draw, levels, 4, size, end)
                    trip = one.often(times).round()
                    self.assertTrue(self.check(trip, times))
                    if one.end != 0 or times % levels != 0:
                        # There is just one root then.
                        self.assertEqual(root(trip, times), one.round())

    def test_rounds_done_often_and_changed(self):
        draw = random.Random(3)
        for levels in LEVELS:
            for size, end in ((5, 3), (2, 9), (BIG, 3), (BIG, BIG)):
                for times in (2, 3, 5, 7):
                    one = drawn_model(draw, levels, 4, size, 0)
                    one.end = draw.randint(1, end) * draw.choice((1, -1))
                    trip = one.often(times)
                    # A root of a round with one lamp more would be the old root and one of this lamp alone.
                    changed = trip.then(Model(levels, {draw.randint(-size, size): 1}, 0)).round()
                    with self.subTest(trip=changed.text, times=times):
                        self.assertIsNone(root(changed, times))
                        self.assertIsNone(root(Round(levels, changed.lamps, changed.end + 1), times))

    def test_end_0(self):
        draw = random.Random(4)
        for levels in LEVELS:
            for size in (4, BIG):
                for times in TIMES:
                    trip = drawn(draw, levels, 5, size, 0)
                    found = root(trip, times)
                    with self.subTest(trip=trip.text, times=times):
                        if times % levels == 0 and trip.lamps:
                            self.assertIsNone(found)
                        else:
                            lamps = {place: level * times for place, level in found.lamps}
                            self.assertEqual(Model(levels, lamps, found.end).parts(), (levels, trip.lamps, 0))

    def test_the_still_round(self):
        for levels in LEVELS:
            for times in TIMES:
                found = root(Round(levels, (), 0), times)
                lamps = {place: level * times for place, level in found.lamps}
                self.assertEqual(Model(levels, lamps, found.end).parts(), (levels, (), 0))

    def test_dark_rounds(self):
        for levels in LEVELS:
            for times in TIMES:
                for end in (1, -1, 3, -BIG):
                    self.assertEqual(root(Round(levels, (), times * end), times), Round(levels, (), end))
                    if times > 1:
                        self.assertIsNone(root(Round(levels, (), times * end + 1), times))

    def test_large_numbers(self):
        # u less u moved by a, with the end a, done n times is u less u moved by n times a, with the end n times a.
        draw = random.Random(5)
        for levels in LEVELS:
            for times in TIMES:
                for end in (1, -1, 4, -3, BIG):
                    part = drawn_model(draw, levels, 4, draw.choice((3, BIG)), 0)
                    one = part.then(Model(levels, {at + end: -level for at, level in part.lamps.items()}, end))
                    whole = {at + times * end: -level for at, level in part.lamps.items()}
                    trip = part.then(Model(levels, whole, times * end)).round()
                    with self.subTest(trip=trip.text, times=times):
                        self.assertEqual(root(trip, times), one.round())
                        self.assertEqual(often(one.round(), times), trip)
                        if times > 1:
                            more = trip.lamps[-1][0] + 1 if trip.lamps else 0
                            self.assertIsNone(root(Round(levels, trip.lamps + ((more, 1),), trip.end), times))

    def test_the_first_root_is_the_round(self):
        full = tuple((3 * place - BIG, place % 6 + 1) for place in range(400))
        for end in (0, 1, -1, 50, BIG, -BIG):
            self.assertEqual(root(Round(7, full, end), 1), Round(7, full, end))

    def test_more_times_than_the_end(self):
        self.assertIsNone(root(Round(2, (), 3), 4))
        self.assertIsNone(root(Round(2, (), -3), 10 ** 26))
        self.assertIsNone(root(Round(2, ((0, 1),), 1), 2))

    def test_many_lamps(self):
        # The picture with one level more at place 0 and one less at k ends: its root has two lamps for each end.
        for levels in LEVELS:
            for times, end in ((2, 1), (3, -1), (5, 7), (BIG, -2)):
                for many in (1, 3, 199, 200, 201, 202, 10 ** 25):
                    whole = many * times * end
                    lamps = tuple(sorted(((0, 1), (whole, levels - 1))))
                    found = outcome(root, Round(levels, lamps, times * end), times)
                    with self.subTest(levels=levels, times=times, end=end, many=many):
                        self.assertEqual(outcome(root, times=times, trip=Round(levels, lamps, times * end)), found)
                        if many > 200:
                            self.assertEqual(found, (TooMany, {"given": 2 * many}))
                        else:
                            self.assertEqual(found, Round(levels, tuple(sorted(
                                [(at * times * end, 1) for at in range(many)]
                                + [((at * times + 1) * end, levels - 1) for at in range(many)])), end))

    def test_wrong_arguments(self):
        check_wrong(self, root, ("trip", "times"), (Round(2, ((0, 1),), 1), 3),
                    ((NotRound, NO_ROUNDS), (InvalidNumber, NO_NUMBERS + (0, -1, -2, -7, -BIG, -10 ** 40))))


if __name__ == "__main__":
    unittest.main()
