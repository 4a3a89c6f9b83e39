"""What several tests share."""

from lamprounds.lots import Lot
from lamprounds.rounds import Round


def outcome(call, *args, **named):
    """What a call comes to: its result, or the class of its error and the error's attributes."""
    try:
        return call(*args, **named)
    except Exception as error:
        return type(error), vars(error)


class EqualsAll:
    """A value that says that it equals everything."""

    def __eq__(self, other):
        return True

    def __ne__(self, other):
        return False

    __hash__ = None


class FailsToCompare:
    """A value that cannot be compared."""

    def __eq__(self, other):
        raise RuntimeError("compared")

    __ne__ = __lt__ = __le__ = __gt__ = __ge__ = __eq__
    __hash__ = None


class Model:
    """A round as the document tells it, put together lamp by lamp and only for a few small or sparse ones."""

    def __init__(self, levels, lamps, end):
        self.levels = levels
        self.lamps = {place: level % levels for place, level in dict(lamps).items() if level % levels}
        self.end = end

    def then(self, second):
        lamps = dict(self.lamps)
        for place, level in second.lamps.items():
            lamps[place + self.end] = lamps.get(place + self.end, 0) + level
        return Model(self.levels, lamps, self.end + second.end)

    def undone(self):
        return Model(self.levels, {place - self.end: -level for place, level in self.lamps.items()}, -self.end)

    def often(self, times):
        one = self if times >= 0 else self.undone()
        done = Model(self.levels, {}, 0)
        for _ in range(abs(times)):
            done = done.then(one)
        return done

    def picture(self):
        return tuple(sorted(self.lamps.items()))

    def parts(self):
        return self.levels, self.picture(), self.end

    def round(self):
        return Round(*self.parts())


def model(trip):
    return Model(trip.levels, trip.lamps, trip.end)


def drawn_model(draw, levels, most, size, end):
    """A model with up to most lamps at places of up to this size, and an end of up to that size."""
    lamps = {draw.randint(-size, size): draw.randrange(levels) for _ in range(draw.randint(0, most))}
    return Model(levels, lamps, draw.randint(-end, end))


def drawn(draw, levels, most, size, end):
    return drawn_model(draw, levels, most, size, end).round()


def drawn_lot(draw, levels, ends=None, most=6, size=24):
    """A lot with these ends, or one to four drawn ones, and up to most lamps for each round."""
    if ends is None:
        ends = [draw.choice((0, draw.randint(-8, 8))) for _ in range(draw.randint(1, 4))]
    return Lot(tuple(Round(levels, drawn(draw, levels, most, size, 0).lamps, end) for end in ends))


# Ends of lots of all kinds: with all steps, one or more rounds, and few or many doings to come to the step.
ENDS = ((0,), (1,), (-5,), (0, 0), (3, 0), (-8, 5), (4, -4), (0, 0, 0), (2, 0, 0), (6, 4, 0), (3, -3, 6), (8, 7, 5),
        (0, 0, 0, 0), (1, 0, 0, 0), (2, 0, -4, 0), (3, 0, 0, 0), (-6, 3, 0, -3), (8, 0, 0, 0), (8, -8, 8, 8),
        (8, 7, 6, 5), (8, 5, 0, 0), (-2, 4, 6, -8))


def largest_lot(draw, levels, ends):
    """A lot of the bounds: lamps at all places."""
    return Lot(tuple(Round(levels, tuple((place, draw.randrange(1, levels)) for place in range(-24, 25)), end)
                     for end in ends))


def planned(lot, plan):
    """The model of a plan, each doing gone through."""
    levels, lamps, place = lot.levels, {}, 0
    for index, times in plan:
        one = model(lot.rounds[index])
        one = one if times > 0 else one.undone()
        for _ in range(abs(times)):
            for at, level in one.lamps.items():
                lamps[place + at] = lamps.get(place + at, 0) + level
            place += one.end
    return Model(levels, lamps, place)


def lead_of(step, row):
    """The lead of a row, and the numbers of steps in it with their levels."""
    lead = min(place % step for place, _ in row)
    return lead, {place // step: level for place, level in row if place % step == lead}


def told_by(form, trip):
    """Whether a form tells of a model, as the document says it: by dividing its parts, one behind another."""
    step, rows, rest = form
    levels = trip.levels
    if step == 0:
        left = dict(trip.lamps)
        for row in rows:
            times = left.get(row[0][0], 0)
            left = Model(levels, left, 0).then(Model(levels, row, 0).often(-times % levels)).lamps
        return trip.end == 0 and not left
    if trip.end % step:
        return False
    left = trip.then(Model(levels, rest, step).often(-(trip.end // step))).lamps
    for row in rows:
        lead, divisor = lead_of(step, row)
        last = max(divisor)
        numbers = [place // step for place in left if place % step == lead]
        for number in range(max(numbers, default=0), min(numbers, default=1) + last - 1, -1):
            times = left.get(lead + step * number, 0)
            by = step * (number - last)
            for place, level in row:
                left[place + by] = (left.get(place + by, 0) - times * level) % levels
        if any(level for place, level in left.items() if place % step == lead):
            return False
    return not any(left.values())


def has_form_lamps(levels, form):
    """Whether the lamps of a triple are as the document tells of those of a form."""
    step, rows, rest = form
    pictures = list(rows) + [rest]
    for picture in pictures:
        places = [place for place, _ in picture]
        if places != sorted(set(places)) or not all(0 < level < levels for _, level in picture):
            return False
    if step == 0:
        firsts = [row[0] for row in rows]
        alone = all(not any(place == first[0] for place, _ in other)
                    for at, first in enumerate(firsts) for other in rows[:at] + rows[at + 1:])
        return rest == () and all(level == 1 for _, level in firsts) and firsts == sorted(set(firsts)) and alone
    leads = [lead_of(step, row)[0] for row in rows]
    if leads != sorted(set(leads)):
        return False
    for at, lead in enumerate(leads):
        part = lead_of(step, rows[at])[1]
        last = lead + step * max(part)
        if min(part) != 0 or part[max(part)] != 1:
            return False
        for picture in pictures[:at] + pictures[at + 1:]:
            if not all(lead <= place < last for place, _ in picture if place % step == lead):
                return False
    return True


# What is in no place of an argument right, and what is wrong for a round or for a number.
ANYTHING = (None, True, False, "", "0", "levels 2 end 0 dark", b"", (), (2, (), 0), ((0, 1),), [], [1, [2]], {},
            {"levels": 2}, object(), Round, int, EqualsAll(), FailsToCompare())
NO_ROUNDS = ANYTHING + (0, 1, -3, 10 ** 40)
NO_NUMBERS = ANYTHING + (Round(2, (), 0),)


def check_wrong(case, call, names, right, wrong):
    """Check that the first wrong argument is told, for each one alone and beside other wrong ones.

    names: those of the parameters; right: a right value for each; wrong: pairs (error, wrong values) for each.
    """
    for at, (error, values) in enumerate(wrong):
        for value in values:
            for behind in (None, (), "x", True):
                args = list(right[:at]) + [value]
                args += [right[at + 1:], [behind] * (len(names) - at - 1)][behind is not None]
                named = dict(reversed(list(zip(names, args))))
                for found, told in (outcome(call, *args), outcome(call, **named)):
                    with case.subTest(call=call.__name__, args=args):
                        case.assertIs(found, error)
                        case.assertEqual(list(told), ["given"])
                        case.assertIs(told["given"], value)


NO_LOTS = NO_ROUNDS + (Round(2, (), 0), (Round(2, (), 0),), [Round(2, (), 0)], "levels 2 end 0 dark\nlevels 2 end 1 dark",
                       Lot)
