"""Streets: rounds done and taken back, and trials."""

import random
import unittest

from helpers import ANYTHING, NO_ROUNDS, Model, drawn_model, outcome
from lamprounds.doing import often, then
from lamprounds.errors import InvalidLevels, NothingToUndo, NotRound, OtherLevels, TooMany
from lamprounds.limits import LEVELS
from lamprounds.rounds import Round
from lamprounds.streets import Street

BIG = 10 ** 39 + 7


class Stopped(Exception):
    """An exception of the tests' own."""


def plain(street):
    """All that a street tells of itself."""
    return (street.levels, street.place, street.lamps, street.done, street.trip.text, len(street), bool(street))


class Case(unittest.TestCase):
    def check(self, street, levels, done):
        """Check that a street tells of itself that these rounds, as models, were done, and nothing else."""
        whole = Model(levels, {}, 0)
        for one in done:
            whole = whole.then(one)
        self.assertEqual((street.levels, street.place, street.lamps), (levels, whole.end, whole.picture()))
        self.assertIs(type(street.lamps), tuple)
        self.assertIs(type(street.done), tuple)
        self.assertEqual(street.done, tuple(one.round() for one in done))
        self.assertIs(type(street.trip), Round)
        self.assertEqual(street.trip, whole.round())
        self.assertEqual(len(street), len(done))
        self.assertIs(bool(street), True)

    def all_taken_back(self, street, levels, done):
        """Check what can be taken back, by taking it back."""
        self.check(street, levels, done)
        for many in range(len(done) - 1, -1, -1):
            self.assertIsNone(street.undo())
            self.check(street, levels, done[:many])
        self.assertEqual(outcome(street.undo), (NothingToUndo, {}))
        self.check(street, levels, [])


class Doing(Case):
    def test_two_streets_by_turns(self):
        draw = random.Random(1)
        for levels in LEVELS:
            for size, end in ((4, 2), (30, 8), (BIG, BIG), (3, BIG)):
                streets = [Street(levels), Street(levels=draw.choice(LEVELS))]
                done = [[], []]
                for _ in range(40):
                    at = draw.randrange(2)
                    street = streets[at]
                    if draw.random() < 0.7:
                        one = drawn_model(draw, street.levels, 5, size, end)
                        place = street.do(one.round()) if draw.random() < 0.5 else street.do(trip=one.round())
                        done[at].append(one)
                        self.assertEqual(place, sum(one.end for one in done[at]))
                    elif done[at]:
                        self.assertIsNone(street.undo())
                        done[at].pop()
                    else:
                        self.assertEqual(outcome(street.undo), (NothingToUndo, {}))
                    for street, some in zip(streets, done):
                        self.check(street, street.levels, some)
                for street, some in zip(streets, done):
                    self.all_taken_back(street, street.levels, some)

    def test_a_new_street(self):
        for levels in LEVELS:
            self.check(Street(levels), levels, [])
            self.check(Street(levels=levels), levels, [])

    def test_the_rounds_that_were_done(self):
        one, two = Round(2, ((0, 1),), 1), Round(2, (), 5)
        street = Street(2)
        for trip in (one, two, one):
            street.do(trip)
        for found, trip in zip(street.done, (one, two, one)):
            self.assertIs(found, trip)

    def test_streets_are_not_equal(self):
        street, other = Street(2), Street(2)
        self.assertIs(street == other, False)
        self.assertIs(street != other, True)
        for value in ANYTHING + (street.trip, 0):
            if type(value).__module__ != "helpers":
                self.assertIs(street == value, False)
                self.assertIs(street != value, True)

    def test_wrong_levels(self):
        for value in ANYTHING + (0, 1, 4, 6, 8, 9, -2, 11, BIG, "2", (2,), [3], Street(2), Round(2, (), 0)):
            for found, told in (outcome(Street, value), outcome(Street, levels=value)):
                with self.subTest(value=value):
                    self.assertIs(found, InvalidLevels)
                    self.assertEqual(list(told), ["given"])
                    self.assertIs(told["given"], value)

    def check_refused(self, street, trip, error, given):
        before = plain(street)
        for found, told in (outcome(street.do, trip), outcome(street.do, trip=trip)):
            with self.subTest(trip=trip):
                self.assertIs(found, error)
                self.assertEqual(list(told), ["given"])
                self.assertTrue(told["given"] is given or type(given) is int and told["given"] == given)
                self.assertEqual(plain(street), before)

    def test_refused_doings(self):
        for levels in LEVELS:
            street = Street(levels)
            one = Model(levels, {0: 1, 5: levels - 1}, 3)
            street.do(one.round())
            for value in NO_ROUNDS + (street, (one.round(),)):
                self.check_refused(street, value, NotRound, value)
            for other in LEVELS:
                if other != levels:
                    self.check_refused(street, Round(other, (), 0), OtherLevels, other)
                    full = tuple((place, 1) for place in range(1000, 1400))
                    self.check_refused(street, Round(other, full, 0), OtherLevels, other)
            self.all_taken_back(street, levels, [one])

    def test_too_many_lamps(self):
        street = Street(2)
        one = Round(2, ((0, 1),), 1)
        street.do(often(one, 400))
        self.assertEqual((len(street.lamps), street.place), (400, 400))
        self.check_refused(street, one, TooMany, 401)
        self.check_refused(street, Round(2, ((-1, 1), (7, 1), (BIG, 1)), 0), TooMany, 401)
        self.check_refused(street, often(one, 400), TooMany, 800)
        # Lamps that are dark again do not count.
        self.assertEqual(street.do(Round(2, ((-1, 1), (BIG, 1)), -BIG)), 400 - BIG)
        self.assertEqual(len(street.lamps), 400)
        self.assertEqual((street.undo(), street.undo(), street.lamps), (None, None, ()))
        self.assertEqual(outcome(street.undo), (NothingToUndo, {}))

    def test_many_doings(self):
        street = Street(3)
        one = Round(3, ((0, 1), (1, 2)), 1)
        for number in range(2000):
            self.assertEqual(street.do(one), number + 1)
        self.assertEqual((len(street), street.lamps), (2000, ((0, 1), (2000, 2))))


class Trials(Case):
    def begun(self, levels=5):
        street = Street(levels)
        done = [Model(levels, {0: 1, 3: 4}, 2), Model(levels, {-2: 2}, -7)]
        for one in done:
            street.do(one.round())
        return street, done

    def some(self, levels=5):
        return Round(levels, ((1, 1), (8, 3)), 4)

    def test_within_a_with_statement(self):
        street, done = self.begun()
        with street.trial() as held:
            self.assertIs(held, street)
            self.assertEqual(street.do(self.some()), -1)
            street.do(self.some())
            self.assertEqual(len(street), 4)
        self.all_taken_back(street, 5, done)

    def test_undos_to_ahead_of_it(self):
        for many in (1, 2, 3):
            street, done = self.begun()
            with street.trial():
                street.do(self.some())
                for _ in range(many):
                    street.undo()
                street.do(self.some())
                self.check(street, 5, done[:3 - many] + [Model(5, {1: 1, 8: 3}, 4)])
            self.all_taken_back(street, 5, done)
        street, done = self.begun()
        with street.trial():
            street.undo()
            street.undo()
            self.assertEqual(outcome(street.undo), (NothingToUndo, {}))
        self.all_taken_back(street, 5, done)

    def test_blocks_that_end_otherwise(self):
        def returns(street):
            with street.trial():
                street.do(self.some())
                return street.place

        street, done = self.begun()
        with self.assertRaises(Stopped) as caught:
            with street.trial():
                street.do(self.some())
                street.undo()
                street.undo()
                raise Stopped("told")
        self.assertEqual(str(caught.exception), "told")
        self.check(street, 5, done)
        self.assertEqual(returns(street), -1)
        self.check(street, 5, done)
        for _ in range(3):
            with street.trial():
                street.do(self.some())
                break
        self.check(street, 5, done)
        with self.assertRaises(OtherLevels):
            with street.trial():
                street.undo()
                street.do(Round(2, (), 0))
        self.all_taken_back(street, 5, done)

    def test_trials_within_trials(self):
        street, done = self.begun()
        with street.trial():
            street.undo()
            with street.trial():
                street.undo()
                with street.trial():
                    street.do(self.some())
                self.check(street, 5, [])
                street.do(self.some())
            self.check(street, 5, done[:1])
            try:
                with street.trial():
                    street.do(self.some())
                    raise Stopped
            except Stopped:
                self.check(street, 5, done[:1])
            street.do(self.some())
        self.all_taken_back(street, 5, done)

    def test_one_object_for_several_statements(self):
        street, done = self.begun()
        trial = street.trial()
        street.do(self.some())
        whole = done + [Model(5, {1: 1, 8: 3}, 4)]
        for _ in range(3):
            with trial as held:
                self.assertIs(held, street)
                self.check(street, 5, whole)
                street.undo()
                street.undo()
            self.check(street, 5, whole)
        street.undo()
        # The trial begins when the statement does, not when the object is made or was used ahead.
        with trial:
            street.do(self.some())
        self.check(street, 5, done)

    def test_one_object_for_one_within_another(self):
        street, done = self.begun()
        trial = street.trial()
        with trial:
            street.undo()
            with trial:
                street.undo()
                with trial:
                    street.do(self.some())
                    street.do(self.some())
                self.check(street, 5, [])
                street.do(self.some())
            self.check(street, 5, done[:1])
            street.do(self.some())
            with trial:
                street.undo()
            self.assertEqual(len(street), 2)
        self.all_taken_back(street, 5, done)

    def test_two_objects_and_two_streets(self):
        street, done = self.begun()
        other, more = self.begun(7)
        first, second = street.trial(), street.trial()
        with first, other.trial(), second:
            street.undo()
            other.do(self.some(7))
            with first:
                street.do(self.some())
            self.check(street, 5, done[:1])
        self.all_taken_back(street, 5, done)
        self.all_taken_back(other, 7, more)

    def test_tried(self):
        street, done = self.begun()

        def action(given):
            self.assertIs(given, street)
            given.undo()
            place = given.do(self.some())
            inner = given.tried(lambda same: same.do(self.some()))
            return place, inner, len(given)

        self.assertEqual(street.tried(action), (6, 10, 2))
        self.assertEqual(street.tried(action=action), (6, 10, 2))
        self.assertIsNone(street.tried(lambda given: given.undo()))
        self.assertEqual(street.tried(len), 2)
        self.check(street, 5, done)

        def fails(given):
            given.do(self.some())
            raise Stopped("told")

        with self.assertRaises(Stopped):
            street.tried(fails)
        self.all_taken_back(street, 5, done)

    def test_the_street_goes_on_as_it_was(self):
        street, done = self.begun()
        with street.trial():
            street.do(self.some())
        self.assertEqual(street.do(self.some()), -1)
        self.assertEqual(street.trip, then(then(done[0].round(), done[1].round()), self.some()))
        self.all_taken_back(street, 5, done + [Model(5, {1: 1, 8: 3}, 4)])

    def test_drawn(self):
        draw = random.Random(2)

        def act(street, done, depth):
            """Do drawn deeds, and return what was done as it is then."""
            for _ in range(draw.randint(0, 6)):
                deed = draw.random()
                if deed < 0.5:
                    one = drawn_model(draw, street.levels, 3, 5, 3)
                    street.do(one.round())
                    done = done + [one]
                elif deed < 0.75 and done:
                    street.undo()
                    done = done[:-1]
                elif depth < 4:
                    trial = draw.choice(trials)
                    try:
                        with trial:
                            act(street, done, depth + 1)
                            if draw.random() < 0.3:
                                raise Stopped
                    except Stopped:
                        pass
                self.check(street, street.levels, done)
            return done

        for _ in range(60):
            street = Street(draw.choice(LEVELS))
            trials = [street.trial(), street.trial()]
            self.all_taken_back(street, street.levels, act(street, [], 0))


if __name__ == "__main__":
    unittest.main()
