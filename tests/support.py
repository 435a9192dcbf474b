"""What several test files need: plain models, all small passages, wrong values."""

from itertools import combinations_with_replacement
from random import Random

from scaleways.errors import Mismatch, NoValue
from scaleways.passages import Passage

FAR = 10 ** 12

SOME = Passage(9, 2, [(0, 0, False), (4, 1, False), (7, 2, False)])


def nested(depth):
    """Return an empty list in lists, nested so deep."""
    value = []
    for _ in range(depth - 1):
        value = [value]
    return value


NO_NUMBERS = (
    True, False, None, -1, -FAR, "", "0", "3", "abc", [], [0], [3], (), (0,), (3,),
    SOME, [SOME], (SOME, 1), Mismatch(), NoValue(3), nested(8), (nested(7),), [None, True, ["a"]],
)


def model(top, pieces):
    """Return the results of a passage, read off its pieces one by one."""
    values = []
    for x in range(top + 1):
        start, value, rises = [piece for piece in pieces if piece[0] <= x][-1]
        values.append(value + (x - start) if rises else value)
    return values


def model_at(pieces, x):
    """Return the value to which pieces map x."""
    start, value, rises = [piece for piece in pieces if piece[0] <= x][-1]
    return value + (x - start) if rises else value


def greedy(values):
    """Return the normal form of a table: from the left, each piece as long as possible."""
    pieces = []
    x = 0
    while x < len(values):
        length = 1
        rises = False
        for slope in (0, 1):
            end = x
            while end + 1 < len(values) and values[end + 1] - values[end] == slope:
                end += 1
            if end > x:
                length = end - x + 1
                rises = slope == 1
        pieces.append((x, values[x], rises))
        x += length
    return tuple(pieces)


def tables(top, target):
    """Return all tables of passages between these scales."""
    return list(combinations_with_replacement(range(target + 1), top + 1))


def all_passages(top, target):
    """Return all passages between these scales."""
    return [Passage.table(values, target) for values in tables(top, target)]


def results(p):
    """Return the results of a passage, value by value."""
    return [p(x) for x in range(p.top + 1)]


def far_pieces(random, top, target):
    """Return up to 12 pieces of some passage between great scales."""
    many = random.randint(1, 11)
    near = random.randint(0, top)
    starts = {0}
    for _ in range(many - 1):
        starts.add(random.choice([random.randint(0, top), min(top, near + random.randint(0, 9))]))
    starts = sorted(starts)
    pieces = []
    last = random.choice([0, 0, random.randint(0, target // 4)])
    for at, start in enumerate(starts):
        length = (starts[at + 1] if at + 1 < len(starts) else top + 1) - start
        room = target - last
        jump = min(room, random.choice([0, 1, 2, random.randint(0, 9), random.randint(0, room) // 3]))
        value = last + jump
        rises = random.random() < 0.6 and value + length - 1 <= target
        pieces.append((start, value, rises))
        last = value + length - 1 if rises else value
    if random.random() < 0.5 and starts[-1] < top:
        pieces.append((top, target, False))
    return pieces


def far_passages(seed, many, tops=(FAR, FAR - 1, FAR // 3)):
    """Return triples (top, target, pieces) of great passages, the same ones for the same seed."""
    random = Random(seed)
    found = []
    for _ in range(many):
        top = random.choice(tops)
        target = random.choice(tops)
        found.append((top, target, far_pieces(random, top, target)))
    return found


def around(points, top):
    """Return the values of a scale at and beside these points, ascending."""
    return sorted({x + by for x in points for by in (-2, -1, 0, 1, 2) if 0 <= x + by <= top})


def bounds(pieces, top):
    """Return the values at which pieces begin and end."""
    starts = [piece[0] for piece in pieces]
    return starts + [start - 1 for start in starts[1:]] + [top]


def levels(pieces, top):
    """Return the results at the bounds of pieces."""
    return [model_at(pieces, x) for x in bounds(pieces, top)]


def first_from(test, top):
    """Return the least x up to top with test(x), if test only changes once, or top + 1."""
    low = 0
    high = top + 1
    while low < high:
        middle = (low + high) // 2
        if test(middle):
            high = middle
        else:
            low = middle + 1
    return low
