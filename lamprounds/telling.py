"""Forms: those of lots, which triples have the lamps of one, and which rounds are told by one."""

from lamprounds.bases import base_and_others
from lamprounds.lanes import by_lanes, picture_of, reduce_by, rows_of
from lamprounds.pictures import repeated, total
from lamprounds.values import is_integer, wrong_lamp


def form_of(lot):
    """Return the form of a lot."""
    base, others = base_and_others(lot)
    lamps, step, _ = base
    rows = rows_of(lot.levels, [by_lanes(more, step) for more, end, plan in others])
    rest = by_lanes(lamps, step)
    reduce_by(lot.levels, rest, rows)
    return step, tuple([picture_of(lanes, step) for lead, lanes in rows]), picture_of(rest, step)


def cosets_of(levels, form):
    """Return the number of cosets of a lot with a form, None if there are endlessly many."""
    step, rows, _ = form
    # Without a step, and where a lane is no lead, pictures can be told apart by lamps as far away as one likes.
    if step == 0 or len(rows) < step:
        return None
    number = step
    for rest, row in enumerate(rows):
        # A picture is reduced to as many levels as its lead has lamps, the last one left out.
        for _ in range(max(by_lanes(row, step)[rest])):
            number = number * levels
    return number


def times_to(end, step):
    """Return how often a step is done to come to an end, None if it does not come there."""
    if step == 0:
        return 0 if end == 0 else None
    return end // step if end % step == 0 else None


def lacking(trip, lamps, step, times):
    """Return by its lanes what a round has more than the round with these lamps and this step as end, so often done."""
    done = repeated(trip.levels, lamps, step, times)
    return by_lanes(total(trip.levels, ((trip.lamps, 0, 1), (done, 0, -1))), step)


def told(form, trip):
    """Tell whether a round, which is near, is told by a form of its levels."""
    step, rows, rest = form
    times = times_to(trip.end, step)
    if times is None:
        return False
    left = lacking(trip, rest, step, times)
    pictures = [by_lanes(row, step) for row in rows]
    reduce_by(trip.levels, left, [(min(lanes), lanes) for lanes in pictures])
    return not left


def is_picture(levels, value):
    """Tell whether a value is a picture."""
    return isinstance(value, tuple) and wrong_lamp(levels, value) is None


def is_reduced(lanes, lead, row):
    """Tell whether a picture has no lamps in a lead but from place 0 on and before the row's last one."""
    lane = lanes.get(lead, {})
    return not lane or 0 <= min(lane) and max(lane) < max(row[lead])


def are_rows(rows):
    """Tell whether pictures by their lanes are rows of a form: their leads, and the lamps of all there."""
    leads = [min(lanes) for lanes in rows]
    for at, lead in enumerate(leads):
        lane = rows[at][lead]
        if at > 0 and lead <= leads[at - 1] or min(lane) != 0 or lane[max(lane)] != 1:
            return False
        if not all([is_reduced(lanes, lead, rows[at]) for lanes in rows[:at] + rows[at + 1:]]):
            return False
    return True


def is_form(levels, value):
    """Tell whether a value is a triple with all that is told of the lamps of a form, whatever makes them."""
    if not isinstance(value, tuple) or len(value) != 3:
        return False
    step, rows, rest = value
    if not is_integer(step) or step < 0 or not isinstance(rows, tuple):
        return False
    if not all([is_picture(levels, row) and len(row) > 0 for row in rows]) or not is_picture(levels, rest):
        return False
    if step == 0 and len(rest) > 0:
        return False
    lanes = [by_lanes(row, step) for row in rows]
    left = by_lanes(rest, step)
    return are_rows(lanes) and all([is_reduced(left, min(row), row) for row in lanes])
