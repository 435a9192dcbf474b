"""All chains: what ways of any length make of the values of a system."""

from scaleways.checks import is_value
from scaleways.errors import NoValue
from scaleways.extremes import extremes, lengthened, stays
from scaleways.resting import drifts


def extreme(system, source, target, up):
    """Return the greatest or the least results of all ways between two scales, or None."""
    first = system.scale(source)
    last = system.scale(target)
    return extremes(system, up).get((first.name, last.name))


def highest(system, source, target):
    """Return the passage to the greatest results of all ways between two scales, or None."""
    return extreme(system, source, target, True)


def lowest(system, source, target):
    """Return the passage to the least results of all ways between two scales, or None."""
    return extreme(system, source, target, False)


def moved(p, up):
    """Return some value that p maps to a greater one, or else to a lesser one, or None."""
    wanted = 1 if up else -1
    for low, _, side in drifts(p):
        if side == wanted:
            return low
    return None


def is_better(value, other, up):
    """Whether a value is greater than the other one, or else less."""
    return value > other if up else value < other


def best_step(system, ways, up):
    """Return the ways with one more link that lead to the greatest or the least values.

    The ways are pairs (value, names), by the names of the scales where they end.
    """
    found = {}
    for link in system.links:
        if link.source in ways:
            before, names = ways[link.source]
            value = link.passage(before)
            if link.target not in found or is_better(value, found[link.target][0], up):
                found[link.target] = (value, (*names, link.name))
    return found


def extreme_trip(system, name, x, many, up):
    """Return the round trip of so many links that maps x to the greatest or the least value."""
    ways = {name: (x, ())}
    for _ in range(many):
        ways = best_step(system, ways, up)
    return ways[name][1]


def shortest_trip(system, up):
    """Return some shortest round trip that makes a value greater, or else lesser, and the value."""
    table = stays(system)
    # The shortest one visits no scale twice, so it has no more links than there are scales.
    for many in range(1, len(system.scales) + 1):
        table = lengthened(system, table, up)
        for source, target in table:
            x = moved(table[source, target], up) if source == target else None
            if x is not None:
                return (extreme_trip(system, source, x, many, up), x)
    return None


def growing(system):
    """Return some shortest round trip that maps a value to a greater one, and this value, or None."""
    return shortest_trip(system, True)


def falling(system):
    """Return some shortest round trip that maps a value to a lesser one, and this value, or None."""
    return shortest_trip(system, False)


def extend_ways(system, ways, ends):
    """Lead ways one link on from these ends, where that is new, and return the new ends.

    The ways are tuples of names, by the pairs (scale, value) where they end.
    """
    found = []
    for name, x in ends:
        for link in system.links:
            if link.source == name:
                end = (link.target, link.passage(x))
                if end not in ways:
                    ways[end] = (*ways[name, x], link.name)
                    found.append(end)
    return found


def reach(system, source, x, target, y):
    """Return some shortest way that maps the value x of a scale to the value y of another, or None."""
    first = system.scale(source)
    last = system.scale(target)
    if not is_value(x, first.top):
        raise NoValue(x)
    if not is_value(y, last.top):
        raise NoValue(y)
    goal = (last.name, y)
    ends = [(first.name, x)]
    ways = {ends[0]: ()}
    while goal not in ways and len(ends) > 0:
        ends = extend_ways(system, ways, ends)
    return ways.get(goal)
