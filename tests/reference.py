"""What the checker accepts, told once more as the document tells it, for numbers that can be gone through."""

import re

from helpers import Model, has_form_lamps, told_by

NUMBER = "(?:0|-?[1-9][0-9]*)"
ROUND = re.compile(f"levels ([2357]) end ({NUMBER}) (?:dark|lamps((?: {NUMBER}:[1-6])+))", re.ASCII)


def is_integer(value):
    return type(value) is int


def read_round(text):
    """The model with this text, None if there is none."""
    found = ROUND.fullmatch(text) if type(text) is str else None
    if not found:
        return None
    levels, end = int(found[1]), int(found[2])
    lamps = [tuple(map(int, word.split(":"))) for word in (found[3] or "").split()]
    places = [place for place, _ in lamps]
    if len(lamps) > 400 or places != sorted(set(places)) or any(level >= levels for _, level in lamps):
        return None
    return Model(levels, lamps, end)


def has_bounds(one, most_place, most_end):
    return all(abs(place) <= most_place for place in one.lamps) and abs(one.end) <= most_end


def read_near(text):
    one = read_round(text)
    return one if one and has_bounds(one, 40, 40) else None


def read_lot(text):
    """The models of the lot with this text, None if there is none."""
    rounds = [read_round(line) for line in text.split("\n")] if type(text) is str else [None]
    if None in rounds or len(rounds) > 4 or len({one.levels for one in rounds}) > 1:
        return None
    return rounds if all(has_bounds(one, 24, 8) for one in rounds) else None


def is_pair(value):
    return type(value) is tuple and len(value) == 2 and is_integer(value[0]) and is_integer(value[1])


def comes_to(rounds, plan, one):
    """Whether a value is a plan of these rounds that comes to this one."""
    if type(plan) is not tuple or not all(is_pair(pair) for pair in plan):
        return False
    lamps, place = {}, 0
    for index, times in plan:
        if not 0 <= index < len(rounds) or times == 0 or abs(times) > 1000:
            return False
        trip = rounds[index] if times > 0 else rounds[index].undone()
        for _ in range(abs(times)):
            for at, level in trip.lamps.items():
                lamps[place + at] = lamps.get(place + at, 0) + level
            place += trip.end
    return Model(rounds[0].levels, lamps, place).parts() == one.parts()


def is_form(levels, value):
    if type(value) is not tuple or len(value) != 3 or not is_integer(value[0]) or value[0] < 0:
        return False
    step, rows, rest = value
    if type(rows) is not tuple or () in rows:
        return False
    for picture in rows + (rest,):
        if type(picture) is not tuple or not all(is_pair(lamp) for lamp in picture):
            return False
    return has_form_lamps(levels, value)


def shows_made(lot, wanted, certificate):
    rounds, one = read_lot(lot), read_near(wanted)
    return bool(rounds and one) and comes_to(rounds, certificate, one)


def shows_missed(lot, wanted, certificate):
    rounds, one = read_lot(lot), read_near(wanted)
    if not rounds or not one:
        return False
    if rounds[0].levels != one.levels:
        return type(certificate) is tuple and certificate == ()
    if not is_form(one.levels, certificate):
        return False
    return all(told_by(certificate, trip) for trip in rounds) and not told_by(certificate, one)


def shows_same(lot, other, certificate):
    first, second = read_lot(lot), read_lot(other)
    if not first or not second or type(certificate) is not tuple or len(certificate) != 2:
        return False
    for plans, by, rounds in ((certificate[0], first, second), (certificate[1], second, first)):
        if type(plans) is not tuple or len(plans) != len(rounds):
            return False
        if not all(comes_to(by, plan, one) for plan, one in zip(plans, rounds)):
            return False
    return True


def shows_alike(first, second, certificate):
    one, two, between = read_round(first), read_round(second), read_round(certificate)
    if not one or not two or not between or len({one.levels, two.levels, between.levels}) > 1:
        return False
    return between.then(one).then(between.undone()).parts() == two.parts()


def shows_root(text, times, certificate):
    one, found = read_round(text), read_round(certificate)
    if not one or not found or not is_integer(times) or times < 1 or one.levels != found.levels:
        return False
    if found.end * times != one.end:
        return False
    if found.end == 0:
        return Model(one.levels, {at: level * times for at, level in found.lamps.items()}, 0).parts() == one.parts()
    return found.often(times).parts() == one.parts()


def shows_steps(text, number, certificate):
    one = read_round(text)
    if not one or not is_integer(number) or type(certificate) is not str:
        return False
    if len(certificate) != number or number > 4000 or set(certificate) - set("<>+"):
        return False
    place, lamps = 0, {}
    for sign in certificate:
        place += {"<": -1, ">": 1, "+": 0}[sign]
        if sign == "+":
            lamps[place] = lamps.get(place, 0) + 1
    return Model(one.levels, lamps, place).parts() == one.parts()


SHOWS = {"makes": shows_made, "misses": shows_missed, "same": shows_same, "alike": shows_alike, "root": shows_root,
         "steps": shows_steps}


def accepts(claim, certificate):
    if type(claim) is not tuple or len(claim) != 3 or type(claim[0]) is not str or claim[0] not in SHOWS:
        return False
    return SHOWS[claim[0]](claim[1], claim[2], certificate)
