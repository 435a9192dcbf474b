"""The greatest and the least results of all ways between the scales of a system.

A table maps pairs (source, target) of names of scales to passages. Where there is
no way, it has no such pair. The results are the greatest ones if up is true, else
the least ones.
"""

from scaleways.passages import Passage
from scaleways.resting import rest


def include(table, pair, passage, up):
    """Let a table take the results of one more passage into account."""
    if pair in table:
        passage = table[pair] | passage if up else table[pair] & passage
    table[pair] = passage


def stays(system):
    """Return the table of the ways without any link."""
    return {(scale.name, scale.name): Passage.same(scale.top) for scale in system.scales}


def lengthened(system, table, up):
    """Return the table of the ways of a table, each with one more link."""
    found = {}
    for source, middle in table:
        for link in system.links:
            if link.source == middle:
                include(found, (source, link.target), table[source, middle] >> link.passage, up)
    return found


def pass_through(system, table, middle, up):
    """Let the ways of a table pass through this scale, as often as they like."""
    # The passage of the scale to itself includes staying, so the sum of all its
    # powers is where it comes to rest.
    table[middle, middle] = rest(table[middle, middle])
    names = [scale.name for scale in system.scales]
    sources = [name for name in names if (name, middle) in table]
    targets = [name for name in names if (middle, name) in table]
    for source in sources:
        first = table[source, middle] >> table[middle, middle]
        for target in targets:
            include(table, (source, target), first >> table[middle, target], up)


def extremes(system, up):
    """Return the table of all ways, without any link or with some."""
    table = stays(system)
    for link in system.links:
        include(table, (link.source, link.target), link.passage, up)
    for scale in system.scales:
        pass_through(system, table, scale.name, up)
    return table
