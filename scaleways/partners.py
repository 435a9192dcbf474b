"""Partners: the passages that lead back from a passage, and what is lost."""

from scaleways.errors import Mismatch
from scaleways.passages import passage_of, rows_of
from scaleways.pieces import aligned, clipped, last_value, lesser, value_on


def check_facing(p, q):
    """Raise Mismatch if q does not lead back between the scales of p."""
    if p.top != q.target or p.target != q.top:
        raise Mismatch()


def least_sources(rows, last):
    """Map each y from 0 to last to the least x that is mapped to y or more.

    If there is none, y is mapped to the number behind the greatest x.
    Return the stretches.
    """
    parts = []
    y = 0
    for row in rows:
        low, _, value, _ = row
        if value >= y:
            parts.append((y, value, low, False))
            y = value + 1
        end = last_value(row)
        if end >= y:
            parts.append((y, end, low + y - value, True))
            y = end + 1
    if y <= last:
        parts.append((y, last, rows[-1][1] + 1, False))
    return parts


def greatest_sources(rows, last):
    """Map each y from 0 to last to the greatest x that is mapped to y or less.

    The x = 0 is mapped to 0. Return the stretches.
    """
    parts = []
    bounds = [row[2] for row in rows] + [last + 1]
    for at, row in enumerate(rows):
        low, high, y, rises = row
        # From the first value of the next stretch on, that one decides.
        end = bounds[at + 1] - 1
        if rises:
            parts.append((y, lesser(last_value(row), end), low, True))
            y = last_value(row) + 1
        if y <= end:
            parts.append((y, end, high, False))
    return parts


def first_difference(rows, others):
    """Return the least x that two mappings of one scale map to different values, or None."""
    for row, other in aligned(rows, others):
        if row[2] != other[2]:
            return row[0]
        if last_value(row) != last_value(other):
            return row[0] + 1
    return None


def misfit(p, q):
    """Return the first pair (x, y) for which only one of p(x) <= y and x <= q(y) holds, or None."""
    check_facing(p, q)
    # For one x both hold from some y on: from p(x), and from the least y with
    # x <= q(y). Only between these two y does one hold alone.
    rows = rows_of(p)
    needed = least_sources(rows_of(q), p.top)
    x = first_difference(rows, needed)
    if x is None:
        return None
    row = clipped(rows, x, x)[0]
    other = clipped(needed, x, x)[0]
    return (x, lesser(row[2], other[2]))


def fits(p, q):
    """Whether for all x and y: p(x) <= y exactly if x <= q(y)."""
    return misfit(p, q) is None


def at_most(p):
    """Return the passage that maps y to the greatest x with p(x) <= y, or None."""
    if p(0) > 0:
        return None
    return passage_of(p.target, p.top, greatest_sources(rows_of(p), p.target))


def at_least(p):
    """Return the passage that maps y to the least x with p(x) >= y, or None."""
    if p(p.top) < p.target:
        return None
    return passage_of(p.target, p.top, least_sources(rows_of(p), p.target))


def lost(p, q):
    """Return the least x with the greatest difference to q(p(x)), and this difference."""
    check_facing(p, q)
    worst = 0
    most = 0
    for row in rows_of(p >> q):
        # On a stretch the difference is greatest at one of its ends.
        for x in (row[0], row[1]):
            loss = abs(x - value_on(row, x))
            if loss > most:
                worst = x
                most = loss
    return (worst, most)


def lowered(p):
    """Return the greatest passage up to p that has a partner at_most."""
    rows = clipped(rows_of(p), 1, p.top)
    return passage_of(p.top, p.target, [(0, 0, 0, False)] + rows)


def raised(p):
    """Return the least passage from p on that has a partner at_least."""
    rows = clipped(rows_of(p), 0, p.top - 1)
    return passage_of(p.top, p.target, rows + [(p.top, p.top, p.target, False)])
