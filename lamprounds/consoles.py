"""Consoles: rounds under names, and answers to lines."""

from lamprounds.checks import is_near
from lamprounds.doing import level_after, order
from lamprounds.errors import InvalidRounds
from lamprounds.forms import cosets, makes
from lamprounds.likeness import is_alike
from lamprounds.lots import Lot
from lamprounds.reading import read_round
from lamprounds.texts import read_integer
from lamprounds.values import is_name
from lamprounds.walks import steps

NO_LINE = "no such line"
NO_NAMED = "no such round"
# The least and the greatest number of names behind each word, as many as there are if None.
NAMES_BEHIND = {"drop": (1, 1), "steps": (1, 1), "order": (1, 1), "alike": (2, 2), "made": (2, None),
                "cosets": (1, None)}


def yes_or_no(value):
    """Return the answer that tells whether something is so."""
    return "yes" if value else "no"


def lot_of(rounds):
    """Return the lot of these rounds, None if they make none."""
    try:
        return Lot(tuple(rounds))
    except InvalidRounds:
        return None


def steps_answer(rounds):
    """Return the answer to `steps`."""
    return str(steps(rounds[0]))


def order_answer(rounds):
    """Return the answer to `order`."""
    number = order(rounds[0])
    return "none" if number is None else str(number)


def alike_answer(rounds):
    """Return the answer to `alike`."""
    first, second = rounds
    return yes_or_no(first.levels == second.levels and is_alike(first, second))


def made_answer(rounds):
    """Return the answer to `made`."""
    lot = lot_of(rounds[1:])
    if lot is None:
        return "no lot"
    if not is_near(rounds[0]):
        return "too far"
    return yes_or_no(makes(lot, rounds[0]))


def cosets_answer(rounds):
    """Return the answer to `cosets`."""
    lot = lot_of(rounds)
    if lot is None:
        return "no lot"
    number = cosets(lot)
    return "endless" if number is None else str(number)


ANSWERS = {"steps": steps_answer, "order": order_answer, "alike": alike_answer, "made": made_answer,
           "cosets": cosets_answer}


def level_answer(rounds, words):
    """Return the answer to `level` with these words behind it."""
    if len(words) != 3:
        return NO_LINE
    name, times, place = words[0], read_integer(words[1]), read_integer(words[2])
    if name == "" or times is None or place is None:
        return NO_LINE
    if name not in rounds:
        return NO_NAMED
    return str(level_after(rounds[name], times, place))


def is_named_line(word, names):
    """Tell whether these words are right behind a word behind which names stand."""
    if word not in NAMES_BEHIND or "" in names:
        return False
    least, most = NAMES_BEHIND[word]
    return least <= len(names) and (most is None or len(names) <= most)


class Console:
    """Answers lines, and has rounds under names."""

    def __init__(self):
        # The rounds by their names, for each putting and dropping that can be taken back and for the beginning.
        self._past = [{}]

    @property
    def names(self):
        """The names of the rounds, ascending."""
        return tuple(sorted(list(self._past[-1])))

    def do(self, line):
        """Return the answer to a line."""
        word, _, behind = line.partition(" ")
        if line == "undo":
            return self.undo()
        if word == "round":
            return self.put(behind)
        rounds = self._past[-1]
        names = behind.split(" ")
        if word == "level":
            return level_answer(rounds, names)
        if not is_named_line(word, names):
            return NO_LINE
        if not all([name in rounds for name in names]):
            return NO_NAMED
        if word == "drop":
            return self.drop(names[0])
        answer = ANSWERS[word]
        return answer([rounds[name] for name in names])

    def put(self, behind):
        """Put a round under a name, both told by what stands behind the word `round`, and return the answer."""
        name, _, text = behind.partition(" ")
        if name == "" or text == "":
            return NO_LINE
        if not is_name(name):
            return "no name"
        trip = read_round(text)
        if trip is None:
            return "no round"
        self._past.append({**self._past[-1], name: trip})
        return "put"

    def drop(self, name):
        """Take away a round that is there, and return the answer."""
        rounds = self._past[-1]
        self._past.append({other: trip for other, trip in rounds.items() if other != name})
        return "dropped"

    def undo(self):
        """Take back the last putting or dropping, and return the answer."""
        if len(self._past) == 1:
            return "nothing"
        self._past.pop()
        return "undone"
