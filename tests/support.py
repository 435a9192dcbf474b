"""What several test files need: plain models, all small passages, wrong values."""

from itertools import combinations_with_replacement
from random import Random

from scaleways.desk import Desk
from scaleways.errors import Mismatch, NoValue
from scaleways.live import Live
from scaleways.passages import Passage
from scaleways.systems import Link, Scale, System

FAR = 10 ** 12

SOME = Passage(9, 2, [(0, 0, False), (4, 1, False), (7, 2, False)])


def nested(depth):
    """Return an empty list in lists, nested so deep."""
    value = []
    for _ in range(depth - 1):
        value = [value]
    return value


SIZE = Scale("size", 2, ["low", "mid", "high"])

UP = Link("up", "fine", "size", SOME)

HOUSE = System([Scale("fine", 9), SIZE], [UP, Link("down", "size", "fine", Passage.table([3, 6, 9], 9))])

NO_NUMBERS = (
    True, False, None, -1, -FAR, "", "0", "3", "abc", [], [0], [3], (), (0,), (3,),
    SOME, [SOME], (SOME, 1), Mismatch(), NoValue(3), nested(8), (nested(7),), [None, True, ["a"]],
    SIZE, UP, HOUSE, (HOUSE, SIZE), [UP], Live(HOUSE), [Desk()],
)


def model(top, pieces):
    """Return the results of a passage, read off its pieces one by one."""
    values = []
    for x in range(top + 1):
        start, value, rises = [piece for piece in pieces if piece[0] <= x][-1]
        values.append(value + (x - start) if rises else value)
    return values


def model_at(pieces, x):
    """Return the value to which pieces map x."""
    start, value, rises = [piece for piece in pieces if piece[0] <= x][-1]
    return value + (x - start) if rises else value


def greedy(values):
    """Return the normal form of a table: from the left, each piece as long as possible."""
    pieces = []
    x = 0
    while x < len(values):
        length = 1
        rises = False
        for slope in (0, 1):
            end = x
            while end + 1 < len(values) and values[end + 1] - values[end] == slope:
                end += 1
            if end > x:
                length = end - x + 1
                rises = slope == 1
        pieces.append((x, values[x], rises))
        x += length
    return tuple(pieces)


def tables(top, target):
    """Return all tables of passages between these scales."""
    return list(combinations_with_replacement(range(target + 1), top + 1))


def all_passages(top, target):
    """Return all passages between these scales."""
    return [Passage.table(values, target) for values in tables(top, target)]


def results(p):
    """Return the results of a passage, value by value."""
    return [p(x) for x in range(p.top + 1)]


def far_pieces(random, top, target):
    """Return up to 12 pieces of some passage between great scales."""
    many = random.randint(1, 11)
    near = random.randint(0, top)
    starts = {0}
    for _ in range(many - 1):
        starts.add(random.choice([random.randint(0, top), min(top, near + random.randint(0, 9))]))
    starts = sorted(starts)
    pieces = []
    last = random.choice([0, 0, random.randint(0, target // 4)])
    for at, start in enumerate(starts):
        length = (starts[at + 1] if at + 1 < len(starts) else top + 1) - start
        room = target - last
        jump = min(room, random.choice([0, 1, 2, random.randint(0, 9), random.randint(0, room) // 3]))
        value = last + jump
        rises = random.random() < 0.6 and value + length - 1 <= target
        pieces.append((start, value, rises))
        last = value + length - 1 if rises else value
    if random.random() < 0.5 and starts[-1] < top:
        pieces.append((top, target, False))
    return pieces


def far_passages(seed, many, tops=(FAR, FAR - 1, FAR // 3)):
    """Return triples (top, target, pieces) of great passages, the same ones for the same seed."""
    random = Random(seed)
    found = []
    for _ in range(many):
        top = random.choice(tops)
        target = random.choice(tops)
        found.append((top, target, far_pieces(random, top, target)))
    return found


def around(points, top):
    """Return the values of a scale at and beside these points, ascending."""
    return sorted({x + by for x in points for by in (-2, -1, 0, 1, 2) if 0 <= x + by <= top})


def bounds(pieces, top):
    """Return the values at which pieces begin and end."""
    starts = [piece[0] for piece in pieces]
    return starts + [start - 1 for start in starts[1:]] + [top]


def levels(pieces, top):
    """Return the results at the bounds of pieces."""
    return [model_at(pieces, x) for x in bounds(pieces, top)]


def first_from(test, top):
    """Return the least x up to top with test(x), if test only changes once, or top + 1."""
    low = 0
    high = top + 1
    while low < high:
        middle = (low + high) // 2
        if test(middle):
            high = middle
        else:
            low = middle + 1
    return low


NO_NAMES = (
    *[value for value in NO_NUMBERS if value != "abc"], 0, 3, "abcde", "A", "aB", "a1", "a b", " a", "a ", "a\n", "a_",
    "\u00e4", "\u00df", "\u03b1", "\u00aa", ["a"], ("a",), [["a"]],
)

HOUSE_TEXT = "\n".join([
    "scale fine 9", "scale size 2 low mid high",
    "link up fine size 9 2 0=0 4=1 7=2", "link down size fine 2 9 0=3 1=6 2=9",
])


def random_passage(random, top, target):
    """Return some passage between small scales, often one near the diagonal."""
    spread = random.choice([0, 1, 1, 2, target])
    values = []
    for x in range(top + 1):
        middle = x * target // top if top else random.randint(0, target)
        values.append(max(0, min(target, middle + random.randint(-spread, spread))))
    return Passage.table(sorted(values), target)


def random_system(random, tops, many):
    """Return a system of scales a, b, .. with these tops and so many links k, l, .. between them."""
    scales = [Scale("abcde"[at], top) for at, top in enumerate(tops)]
    links = []
    for at in range(many):
        source, target = random.choice(scales), random.choice(scales)
        passage = random_passage(random, source.top, target.top)
        links.append(Link("klmnopqr"[at], source.name, target.name, passage))
    return System(scales, links)


def small_systems(seed, many, most=5, scales=3, links=5):
    """Return random systems of small scales, the same ones for the same seed."""
    random = Random(seed)
    found = []
    for _ in range(many):
        tops = [random.randint(0, most) for _ in range(random.randint(1, scales))]
        found.append(random_system(random, tops, random.randint(0, links)))
    return found


def near_passage(random, top, target):
    """Return a passage of up to 12 pieces between scales of any size, mostly near the diagonal."""
    reach = random.choice([step for step in (0, *[10 ** at for at in range(12)]) if step <= top])
    starts = sorted({0, *[random.randint(1, top) for _ in range(11)]})
    pieces = []
    last = 0
    for at, start in enumerate(starts):
        length = (starts[at + 1] if at + 1 < len(starts) else top + 1) - start
        value = max(last, min(target, start + random.randint(-reach, reach)))
        rises = value + length - 1 <= target and random.random() < 0.8
        pieces.append((start, value, rises))
        last = value + length - 1 if rises else value
    return Passage(top, target, pieces)


def far_systems(seed, many, scales=5, links=8):
    """Return random systems at the limits of [3], the same ones for the same seed."""
    random = Random(seed)
    found = []
    for _ in range(many):
        tops = [FAR - random.choice([0, 0, 1, random.randint(0, FAR // 2)]) for _ in range(scales)]
        rows = []
        for at in range(links):
            source, target = at % scales, random.choice([(at + 1) % scales, random.randrange(scales)])
            passage = near_passage(random, tops[source], tops[target])
            if random.random() < 0.3:
                passage = Passage(tops[source], tops[target], far_pieces(random, tops[source], tops[target]))
            rows.append(Link("klmnopqr"[at], "abcde"[source], "abcde"[target], passage))
        found.append(System([Scale("abcde"[at], top) for at, top in enumerate(tops)], rows))
    return found


def moves(system, value):
    """Return the triples (name, scale, value) of all links from a pair (scale, value)."""
    return [
        (link.name, link.target, link.passage(value[1]))
        for link in system.links if link.source == value[0]
    ]


def distances(system, source, x):
    """Return the least number of links to each pair (scale, value) that x can become."""
    found = {(source, x): 0}
    queue = [(source, x)]
    for pair in queue:
        for _, name, value in moves(system, pair):
            if (name, value) not in found:
                found[name, value] = found[pair] + 1
                queue.append((name, value))
    return found


def names_of(system):
    """Return the names of the scales."""
    return [scale.name for scale in system.scales]


def rid_of(system, names):
    """Return a system without the links with these names."""
    return System(system.scales, [link for link in system.links if link.name not in names])


def found_values(system, source, target):
    """Return for each value of the first scale the list of the values of the second one that it can become."""
    found = []
    for x in range(system.scale(source).top + 1):
        found.append([value for name, value in distances(system, source, x) if name == target])
    return found


def shortest_change(system, sign):
    """Return the fewest links of a round trip that makes some value greater (sign 1) or lesser (-1), or None."""
    found = []
    for scale in system.scales:
        for x in range(scale.top + 1):
            for (name, value), many in distances(system, scale.name, x).items():
                if name == scale.name and (value - x) * sign > 0:
                    found.append(many)
    return min(found) if found else None


def random_way(random, system, source, most):
    """Return up to so many names of links that follow one another from a scale, some or none."""
    names = []
    for _ in range(random.randint(0, most)):
        links = [link for link in system.links if link.source == source]
        if not links:
            break
        link = random.choice(links)
        names.append(link.name)
        source = link.target
    return names
