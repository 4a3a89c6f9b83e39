"""Pictures: their sums, and the pictures that come of sums without end."""


def total(levels, parts):
    """Return the sum of pictures, each one moved and multiplied: the parts are triples (lamps, by, times)."""
    sums = {}
    for lamps, by, times in parts:
        for place, level in lamps:
            sums[place + by] = sums.get(place + by, 0) + times * level
    return tuple([(place, sums[place] % levels) for place in sorted(sums) if sums[place] % levels != 0])


def by_rests(lamps, step):
    """Return a dict from rests to lists of the lamps whose places leave this rest when divided by the step."""
    parts = {}
    for place, level in lamps:
        parts.setdefault(place % step, []).append((place, level))
    return parts


def part_runs(levels, part, step):
    """Return the runs of one rest, as `quotient` does."""
    runs = []
    level = 0
    start = 0
    for place, more in part:
        if level != 0:
            runs.append((start, (place - start) // step, level))
        level = (level + more) % levels
        start = place
    # A level other than 0 would go on without end.
    if level != 0:
        return None
    return runs


def quotient(levels, lamps, by):
    """Return the picture that, less itself moved by a number other than 0, is this one; None if there is none.

    It is told by its runs, as it may have more lamps than can be gone through: a run (first, many, level) stands for
    as many lamps with this level, each the size of the number behind the one before it, from the first place on.
    """
    step = abs(by)
    if by < 0:
        # Moved by -by and taken the other way round, both sides of the equation are as for a number above 0.
        lamps = total(levels, ((lamps, step, -1),))
    runs = []
    for part in by_rests(lamps, step).values():
        found = part_runs(levels, part, step)
        if found is None:
            return None
        runs.extend(found)
    return runs


def repeated(levels, lamps, end, times):
    """Return the picture of a round with these lamps and this end done so many times, each doing gone through."""
    if times >= 0:
        return total(levels, [(lamps, end * number, 1) for number in range(times)])
    return total(levels, [(lamps, end * number, -1) for number in range(times, 0)])
