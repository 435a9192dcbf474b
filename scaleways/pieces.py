"""Non-decreasing mappings as lists of pieces and of stretches.

A piece is a triple (start, value, rises), as in a passage. A stretch is a piece
that also knows where it ends: (low, high, value, rises) maps x from low to high
to value, or to value + (x - low). The stretches of a mapping follow one another
from 0 to the top of the scale.

Passages call these functions in their operators. So they only change lists that
they create themselves, and they do not call what they are passed.
"""


def lesser(a, b):
    """Return the lesser one of two numbers."""
    # min is not used, because passages, too, can be compared.
    return a if a < b else b


def greater(a, b):
    """Return the greater one of two numbers."""
    return a if a > b else b


def value_at(pieces, x):
    """Return the value to which pieces map x."""
    first = 0
    last = len(pieces) - 1
    while first < last:
        middle = (first + last + 1) // 2
        if pieces[middle][0] <= x:
            first = middle
        else:
            last = middle - 1
    start, value, rises = pieces[first]
    return value + (x - start) if rises else value


def stretches(pieces, top):
    """Return the stretches of pieces for the scale up to top."""
    bounds = [piece[0] for piece in pieces] + [top + 1]
    return [(piece[0], bounds[at + 1] - 1, piece[1], piece[2]) for at, piece in enumerate(pieces)]


def value_on(stretch, x):
    """Return the value to which a stretch maps x."""
    low, _, value, rises = stretch
    return value + (x - low) if rises else value


def last_value(stretch):
    """Return the greatest value to which a stretch maps something."""
    return value_on(stretch, stretch[1])


def cut(stretch, low, high):
    """Return the part of a stretch from low to high, which lie on it."""
    return (low, high, value_on(stretch, low), stretch[3])


def least_source(rows, y):
    """Return the least x that stretches map to y or more.

    If there is none, return the number behind the greatest x.
    """
    for row in rows:
        if last_value(row) >= y:
            return row[0] + greater(0, y - row[2])
    return rows[-1][1] + 1


def clipped(rows, low, high):
    """Return the parts of stretches that lie between low and high."""
    return [
        cut(row, greater(row[0], low), lesser(row[1], high))
        for row in rows
        if greater(row[0], low) <= lesser(row[1], high)
    ]


def stays_within(rows, target):
    """Whether stretches never decrease and never exceed the target."""
    last = 0
    for row in rows:
        if row[2] < last:
            return False
        last = last_value(row)
    return last <= target


def normal(rows):
    """Return the pieces in normal form of stretches that never decrease."""
    pieces = []
    last = 0
    # Whether the last piece rises; None while it holds a single value and
    # can still become either kind.
    slope = None
    for row in rows:
        low, high, value, rises = row
        step = value - last
        if pieces and step in (0, 1) and slope in (None, step == 1):
            slope = step == 1
            pieces[-1] = (pieces[-1][0], pieces[-1][1], slope)
            # The first x has joined the last piece, and the others only if
            # they go on as that piece does.
            low = high + 1 if slope == rises else low + 1
        if low <= high:
            slope = rises if low < high else None
            pieces.append((low, value_on(row, low), slope is True))
        last = last_value(row)
    return tuple(pieces)


def aligned(rows, others):
    """Cut the stretches of two mappings of one scale at the bounds of both.

    Return the pairs of the parts with equal bounds.
    """
    pairs = []
    at = 0
    by = 0
    low = 0
    while at < len(rows):
        high = lesser(rows[at][1], others[by][1])
        pairs.append((cut(rows[at], low, high), cut(others[by], low, high)))
        if rows[at][1] == high:
            at += 1
        if others[by][1] == high:
            by += 1
        low = high + 1
    return pairs


def level_first(row, other):
    """Return two stretches, of which one rises, in the order level, rising."""
    return (other, row) if row[3] else (row, other)


def crossing(level, rising):
    """Return the x at which a rising stretch would have the value of a level one."""
    return rising[0] + level[2] - rising[2]


def followed(first, second, x):
    """Return the stretches of the first one up to x, then of the second one, with equal bounds."""
    low, high = first[0], first[1]
    if x <= low:
        return [second]
    if x >= high:
        return [first]
    return [cut(first, low, x), cut(second, x + 1, high)]


def greater_parts(row, other):
    """Return the stretches of the greater results of two stretches with equal bounds."""
    if row[3] == other[3]:
        return [row if row[2] >= other[2] else other]
    level, rising = level_first(row, other)
    return followed(level, rising, crossing(level, rising))


def lesser_parts(row, other):
    """Return the stretches of the lesser results of two stretches with equal bounds."""
    if row[3] == other[3]:
        return [row if row[2] <= other[2] else other]
    level, rising = level_first(row, other)
    return followed(rising, level, crossing(level, rising))


def greater_results(rows, others):
    """Return the stretches of the greater results of two mappings of one scale."""
    return [part for row, other in aligned(rows, others) for part in greater_parts(row, other)]


def lesser_results(rows, others):
    """Return the stretches of the lesser results of two mappings of one scale."""
    return [part for row, other in aligned(rows, others) for part in lesser_parts(row, other)]


def never_exceeds(rows, others):
    """Whether the first mapping of one scale maps no x to a greater value than the second."""
    # On parts with equal bounds the difference only rises or only falls.
    return all([
        row[2] <= other[2] and last_value(row) <= last_value(other)
        for row, other in aligned(rows, others)
    ])


def composed(rows, others):
    """Return the stretches of the first mapping, then the second one."""
    parts = []
    at = 0
    for row in rows:
        low, high, _, rises = row
        while low <= high:
            value = value_on(row, low)
            # The values never decrease, so the place in others only goes on.
            while others[at][1] < value:
                at += 1
            end = lesser(high, low + others[at][1] - value) if rises else high
            parts.append((low, end, value_on(others[at], value), rises and others[at][3]))
            low = end + 1
    return parts
