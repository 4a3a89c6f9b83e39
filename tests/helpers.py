"""What several tests share."""

from lamprounds.rounds import Round


def outcome(call, *args, **named):
    """What a call comes to: its result, or the class of its error and the error's attributes."""
    try:
        return call(*args, **named)
    except Exception as error:
        return type(error), vars(error)


class EqualsAll:
    """A value that says that it equals everything."""

    def __eq__(self, other):
        return True

    def __ne__(self, other):
        return False

    __hash__ = None


class FailsToCompare:
    """A value that cannot be compared."""

    def __eq__(self, other):
        raise RuntimeError("compared")

    __ne__ = __lt__ = __le__ = __gt__ = __ge__ = __eq__
    __hash__ = None


class Model:
    """A round as the document tells it, put together lamp by lamp and only for a few small or sparse ones."""

    def __init__(self, levels, lamps, end):
        self.levels = levels
        self.lamps = {place: level % levels for place, level in dict(lamps).items() if level % levels}
        self.end = end

    def then(self, second):
        lamps = dict(self.lamps)
        for place, level in second.lamps.items():
            lamps[place + self.end] = lamps.get(place + self.end, 0) + level
        return Model(self.levels, lamps, self.end + second.end)

    def undone(self):
        return Model(self.levels, {place - self.end: -level for place, level in self.lamps.items()}, -self.end)

    def often(self, times):
        one = self if times >= 0 else self.undone()
        done = Model(self.levels, {}, 0)
        for _ in range(abs(times)):
            done = done.then(one)
        return done

    def picture(self):
        return tuple(sorted(self.lamps.items()))

    def parts(self):
        return self.levels, self.picture(), self.end

    def round(self):
        return Round(*self.parts())


def model(trip):
    return Model(trip.levels, trip.lamps, trip.end)


def drawn_model(draw, levels, most, size, end):
    """A model with up to most lamps at places of up to this size, and an end of up to that size."""
    lamps = {draw.randint(-size, size): draw.randrange(levels) for _ in range(draw.randint(0, most))}
    return Model(levels, lamps, draw.randint(-end, end))


def drawn(draw, levels, most, size, end):
    return drawn_model(draw, levels, most, size, end).round()


# What is in no place of an argument right, and what is wrong for a round or for a number.
ANYTHING = (None, True, False, "", "0", "levels 2 end 0 dark", b"", (), (2, (), 0), ((0, 1),), [], [1, [2]], {},
            {"levels": 2}, object(), Round, int, EqualsAll(), FailsToCompare())
NO_ROUNDS = ANYTHING + (0, 1, -3, 10 ** 40)
NO_NUMBERS = ANYTHING + (Round(2, (), 0),)


def check_wrong(case, call, names, right, wrong):
    """Check that the first wrong argument is told, for each one alone and beside other wrong ones.

    names: those of the parameters; right: a right value for each; wrong: pairs (error, wrong values) for each.
    """
    for at, (error, values) in enumerate(wrong):
        for value in values:
            for behind in (None, (), "x", True):
                args = list(right[:at]) + [value]
                args += [right[at + 1:], [behind] * (len(names) - at - 1)][behind is not None]
                named = dict(reversed(list(zip(names, args))))
                for found, told in (outcome(call, *args), outcome(call, **named)):
                    with case.subTest(call=call.__name__, args=args):
                        case.assertIs(found, error)
                        case.assertEqual(list(told), ["given"])
                        case.assertIs(told["given"], value)
