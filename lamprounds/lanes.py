"""Pictures sorted into lanes, as rows of which sums are made.

A lane has the places that leave one rest when divided by a step. A picture by its lanes is a dict from these rests to
dicts from the numbers of steps to levels other than 0: the lamp at the place 7 is, for the step 3, in the lane 1 under
the number 2. Without a step (0) nothing is moved, so each place is a lane of its own, with the number 0 alone.

Rows are pairs (lead, picture by its lanes), the leads ascending and each one the least lane of its picture.
"""


def by_lanes(lamps, step):
    """Return a picture by its lanes."""
    lanes = {}
    for place, level in lamps:
        if step == 0:
            lanes[place] = {0: level}
        else:
            lanes.setdefault(place % step, {})[place // step] = level
    return lanes


def picture_of(lanes, step):
    """Return the picture that is told by its lanes."""
    lamps = [(rest + step * number, level) for rest, lane in lanes.items() for number, level in lane.items()]
    return tuple(sorted(lamps))


def add_moved(levels, lanes, more, by, times):
    """Add to a picture by its lanes another one, moved by so many steps and multiplied."""
    for rest, lane in more.items():
        sums = lanes.setdefault(rest, {})
        for number, level in lane.items():
            whole = (sums.get(number + by, 0) + times * level) % levels
            if whole == 0:
                sums.pop(number + by, None)
            else:
                sums[number + by] = whole
        if not sums:
            del lanes[rest]


def inverse(levels, level):
    """Return the number that makes 1 of a level other than 0 when it is multiplied by it."""
    for number in range(1, levels):
        if number * level % levels == 1:
            return number
    return None


def breadth(lane):
    """Return how many steps lie between the first and the last lamp of a lane."""
    return max(lane) - min(lane)


def shorten(levels, lanes, lead, row):
    """Take a row from a picture, moved and multiplied, until its lead is less broad there than in the row."""
    last = max(row[lead])
    factor = inverse(levels, row[lead][last])
    while lead in lanes and breadth(lanes[lead]) >= breadth(row[lead]):
        number = max(lanes[lead])
        add_moved(levels, lanes, row, number - last, -factor * lanes[lead][number])


def one_with_lead(levels, pictures, lead):
    """Take pictures with a lane from one another until one alone has it; return this one, and the others."""
    having = list(pictures)
    others = []
    while len(having) > 1:
        least = min([(breadth(lanes[lead]), at) for at, lanes in enumerate(having)])[1]
        row = having.pop(least)
        for lanes in having:
            shorten(levels, lanes, lead, row)
        others.extend([lanes for lanes in having if lead not in lanes])
        having = [row] + [lanes for lanes in having if lead in lanes]
    return having[0], others


def scaled(levels, lanes, lead):
    """Return a picture moved and multiplied such that its lead begins at 0 and has the level 1 at its last lamp."""
    row = {}
    factor = inverse(levels, lanes[lead][max(lanes[lead])])
    add_moved(levels, row, lanes, -min(lanes[lead]), factor)
    return row


def reduce_lead(levels, lanes, lead, row):
    """Take a row from a picture until its lead lies there from 0 on and before the row's last lamp."""
    last = max(row[lead])
    factor = inverse(levels, row[lead][0])
    while lead in lanes and min(lanes[lead]) < 0:
        number = min(lanes[lead])
        add_moved(levels, lanes, row, number, -factor * lanes[lead][number])
    while lead in lanes and max(lanes[lead]) >= last:
        number = max(lanes[lead])
        add_moved(levels, lanes, row, number - last, -lanes[lead][number])


def reduce_by(levels, lanes, rows):
    """Take rows from a picture until all their leads are reduced there; nothing is left of a sum of rows."""
    # A row has nothing in lanes ahead of its lead, so what is reduced there stays so.
    for lead, row in rows:
        reduce_lead(levels, lanes, lead, row)


def rows_of(levels, pictures):
    """Return the rows, each one reduced by the others, with the same sums as the pictures, which are changed."""
    rows = []
    waiting = [lanes for lanes in pictures if lanes]
    while waiting:
        lead = min([min(lanes) for lanes in waiting])
        having = [lanes for lanes in waiting if lead in lanes]
        waiting = [lanes for lanes in waiting if lead not in lanes]
        row, others = one_with_lead(levels, having, lead)
        rows.append((lead, scaled(levels, row, lead)))
        waiting.extend([lanes for lanes in others if lanes])
    for at in range(len(rows)):
        reduce_by(levels, rows[at][1], rows[at + 1:])
    return rows
