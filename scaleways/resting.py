"""Coming to rest: what becomes of values to which a passage is applied again and again.

A value that is not at rest only rises or only falls, and never past a value that
the passage maps to itself.
"""

from scaleways.checks import is_value
from scaleways.errors import Mismatch, NoValue
from scaleways.passages import passage_of, rows_of
from scaleways.pieces import greater, lesser, value_on


def check_steady(p):
    """Raise Mismatch if a passage does not map a scale to itself."""
    if p.top != p.target:
        raise Mismatch()


def sign(number):
    """Return 1, 0 or -1, as a number is greater than, equal to or less than 0."""
    if number == 0:
        return 0
    return 1 if number > 0 else -1


def drifts_on(stretch):
    """Cut a stretch into triples (low, high, side).

    The side is 1 where the values rise, 0 where they stay, and -1 where they fall.
    """
    low, high, value, rises = stretch
    if rises:
        return [(low, high, sign(value - low))]
    parts = [
        (low, lesser(high, value - 1), 1),
        (greater(low, value), lesser(high, value), 0),
        (greater(low, value + 1), high, -1),
    ]
    return [part for part in parts if part[0] <= part[1]]


def drifts(p):
    """Return the triples (low, high, side) for all values of the scale, ascending."""
    return [part for row in rows_of(p) for part in drifts_on(row)]


def fixed(p):
    """Return the pairs (low, high) of the longest stretches that are mapped to themselves."""
    check_steady(p)
    pairs = []
    for low, high, side in drifts(p):
        if side == 0:
            first = pairs.pop()[0] if pairs and pairs[-1][1] == low - 1 else low
            pairs.append((first, high))
    return tuple(pairs)


def rest(p):
    """Return the passage that maps each value to the one at which it comes to rest."""
    still = fixed(p)
    rows = []
    at = 0
    for low, high, side in drifts(p):
        # From here on still[at], if there is one, does not lie below the part.
        while at < len(still) and still[at][1] < low:
            at += 1
        if side > 0:
            rows.append((low, high, still[at][0], False))
        elif side < 0:
            rows.append((low, high, still[at - 1][1], False))
        else:
            rows.append((low, high, low, True))
    return passage_of(p.top, p.target, rows)


def rounds_on(stretch, x):
    """Return after how many rounds x, which is not at rest, has left a stretch.

    A level stretch counts as left after one round.
    """
    low, high, _, rises = stretch
    step = value_on(stretch, x) - x
    if not rises:
        return 1
    room = high - x if step > 0 else x - low
    return room // abs(step) + 1


def rounds_from(rows, x):
    """Return the number of rounds in which stretches bring x to rest."""
    many = 0
    at = 0
    while rows[at][1] < x:
        at += 1
    while value_on(rows[at], x) != x:
        turns = rounds_on(rows[at], x)
        x += turns * (value_on(rows[at], x) - x)
        many += turns
        while rows[at][1] < x:
            at += 1
        while rows[at][0] > x:
            at -= 1
    return many


def rounds(p, x):
    """Return the least number of applications of p after which x is at rest."""
    check_steady(p)
    if not is_value(x, p.top):
        raise NoValue(x)
    return rounds_from(rows_of(p), x)


def least_with(rows, low, high, many):
    """Return the least x from low to high that needs so many rounds, as high does.

    All these values fall, so a greater one needs no fewer rounds.
    """
    while low < high:
        middle = (low + high) // 2
        if rounds_from(rows, middle) < many:
            low = middle + 1
        else:
            high = middle
    return low


def slowest(p):
    """Return the least x that needs the greatest number of rounds, and this number."""
    check_steady(p)
    rows = rows_of(p)
    part = (0, 0, 0)
    most = 0
    for low, high, side in drifts(p):
        # What is farthest from its rest needs no fewer rounds than the others.
        many = rounds_from(rows, high if side < 0 else low)
        if many > most:
            part = (low, high, side)
            most = many
    low, high, side = part
    return (least_with(rows, low, high, most) if side < 0 else low, most)
