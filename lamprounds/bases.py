"""What the rounds of a lot come to by taking them from one another, as Euclid does with their ends.

What is come to is told by triples (lamps, end, plan), with the plan of the lot whose round it is.
"""

from lamprounds.pictures import repeated, total


def undone_plan(plan):
    """Return the plan whose round is that of this one undone."""
    return tuple([(index, -times) for index, times in plan[::-1]])


def repeated_plan(plan, times):
    """Return the plan whose round is that of this one done so many times."""
    return plan * times if times >= 0 else undone_plan(plan) * -times


def done_behind(levels, first, second, times):
    """Return what comes of the first one, then the second one done so many times."""
    lamps, end, plan = first
    more, by, more_plan = second
    whole = total(levels, ((lamps, 0, 1), (repeated(levels, more, by, times), end, 1)))
    return whole, end + by * times, plan + repeated_plan(more_plan, times)


def nearest(number, divisor):
    """Return the integer that is nearest to the quotient of two integers."""
    return (2 * number + divisor) // (2 * divisor)


def base_and_others(lot):
    """Return one triple whose end is the step of a lot, and triples with the end 0; these make what the lot makes.

    With the step 0, the first one is still.
    """
    waiting = [(trip.lamps, trip.end, ((index, 1),)) for index, trip in enumerate(lot.rounds)]
    still = ((), 0, ())
    others = []
    while True:
        others.extend([made for made in waiting if made[1] == 0])
        waiting = [made for made in waiting if made[1] != 0]
        if len(waiting) < 2:
            break
        least = min([(abs(made[1]), at) for at, made in enumerate(waiting)])[1]
        base = waiting.pop(least)
        waiting = [done_behind(lot.levels, made, base, -nearest(made[1], base[1])) for made in waiting] + [base]
    if not waiting:
        return still, others
    return done_behind(lot.levels, still, waiting[0], 1 if waiting[0][1] > 0 else -1), others
