"""Plans of lots: which there are, the rounds they come to, and a plan for a round that a lot makes."""

from math import lcm

from lamprounds.bases import base_and_others, repeated_plan
from lamprounds.lanes import by_lanes, reduce_by, rows_of
from lamprounds.limits import MOST_NEAR, MOST_TIMES
from lamprounds.making import round_of_runs
from lamprounds.pictures import quotient, total
from lamprounds.telling import lacking, times_to
from lamprounds.values import is_integer

# The lane in which a picture tells how often the first of several pictures is in it; the others have the lanes behind
# it. The lamps of near rounds, and of what is come to for a step, are all in lanes ahead of it.
MARKS = MOST_NEAR + 1


def is_pair(value, many):
    """Tell whether a value is a pair of a plan for a lot of so many rounds."""
    if not isinstance(value, tuple) or len(value) != 2:
        return False
    index, times = value
    if not is_integer(index) or not 0 <= index < many:
        return False
    return is_integer(times) and times != 0 and abs(times) <= MOST_TIMES


def wrong_pair(plan, many):
    """Return the index of the first element that bars a tuple from being a plan, None if it is one."""
    for index, pair in enumerate(plan):
        if not is_pair(pair, many):
            return index
    return None


def sums_of(lot, plan):
    """Return the end of a plan and a dict from sizes of ends to pictures.

    The lamps of the plan are the sum of these pictures, each one moved by its size again and again without end; the
    one for the size 0 is not moved. So times that are many take no longer than few.
    """
    place = 0
    parts = {}
    for index, times in plan:
        trip = lot.rounds[index]
        behind = place + trip.end * times
        found = parts.setdefault(abs(trip.end), [])
        if trip.end == 0:
            found.append((trip.lamps, place, times))
        elif trip.end > 0:
            found.extend([(trip.lamps, place, 1), (trip.lamps, behind, -1)])
        else:
            # Such doings, taken the other way round, begin one end behind the last one.
            found.extend([(trip.lamps, behind - trip.end, 1), (trip.lamps, place - trip.end, -1)])
        place = behind
    return place, {size: total(lot.levels, found) for size, found in parts.items()}


def round_of_plan(lot, plan):
    """Return the round of a plan of a lot."""
    end, sums = sums_of(lot, plan)
    step = 1
    for size in sums:
        step = lcm(step, max(size, 1))
    parts = []
    for size, lamps in sums.items():
        if size == 0:
            parts.extend([(lamps, 0, 1), (lamps, step, -1)])
        else:
            # Moved by the size again and again is the same as all of these moved by the step again and again.
            parts.extend([(lamps, by, 1) for by in range(0, step, size)])
    return round_of_runs(lot.levels, quotient(lot.levels, total(lot.levels, parts), step), step, end)


def tidied(plan):
    """Return a plan with the same round, in which neighbours have unlike indexes and no times are 0 or too many."""
    pairs = []
    for index, times in plan:
        before = pairs.pop()[1] if pairs and pairs[-1][0] == index else 0
        if before + times != 0:
            pairs.append((index, before + times))
    split = []
    for index, times in pairs:
        most = MOST_TIMES if times > 0 else -MOST_TIMES
        full, left = divmod(times, most)
        split.extend([(index, most)] * full)
        if left != 0:
            split.append((index, left))
    return tuple(split)


def marked_rows(levels, others, step):
    """Return the rows of pictures that are marked each by a lamp of its own, so that rows tell of what they come."""
    pictures = [by_lanes(lamps, step) for lamps, end, plan in others]
    for at, lanes in enumerate(pictures):
        lanes[MARKS + at] = {0: 1}
    return rows_of(levels, pictures)


def by_steps(levels, lanes):
    """Return a dict from numbers of steps to lists of pairs of an index and the times that are marked for it there."""
    presses = {}
    for lane, numbers in lanes.items():
        for number, level in numbers.items():
            # A row that was taken away is marked with a level below 0.
            times = levels - level
            times = times - levels if 2 * times > levels else times
            presses.setdefault(number, []).append((lane - MARKS, times))
    return presses


def pairs_by_steps(presses, others, way, times):
    """Return pairs that go as many steps as told, and on the way do what is told for each number of steps."""
    pairs = []
    gone = 0
    for number in sorted(presses):
        pairs.extend(repeated_plan(way, number - gone))
        for index, many in presses[number]:
            pairs.extend(repeated_plan(others[index][2], many))
        gone = number
    pairs.extend(repeated_plan(way, times - gone))
    return pairs


def plan_for(lot, trip):
    """Return a plan of a lot whose round is a near one with the same levels, None if the lot does not make it."""
    base, others = base_and_others(lot)
    lamps, step, way = base
    times = times_to(trip.end, step)
    if times is None:
        return None
    lanes = lacking(trip, lamps, step, times)
    reduce_by(lot.levels, lanes, marked_rows(lot.levels, others, step))
    if min(lanes, default=MARKS) < MARKS:
        return None
    return tidied(pairs_by_steps(by_steps(lot.levels, lanes), others, way, times))
