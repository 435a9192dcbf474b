"""Papers: evidence that no round trip of a system grows, which can be checked link by link."""

from scaleways.extremes import extremes
from scaleways.passages import Passage


def paper(system):
    """Return some right paper, or None if a round trip grows."""
    table = extremes(system, True)
    if not keeps_scales(system, table):
        return None
    return tuple([(source, target, table[source, target]) for source, target in table])


def is_entry(value, tops):
    """Whether any value is a triple of names of scales with these tops and a passage between them."""
    if not isinstance(value, tuple) or len(value) != 3:
        return False
    source, target, passage = value
    if not isinstance(source, str) or not isinstance(target, str) or not isinstance(passage, Passage):
        return False
    if source not in tops or target not in tops:
        return False
    return passage.top == tops[source] and passage.target == tops[target]


def keeps_scales(system, table):
    """Whether a table maps each scale and itself to a passage that changes no value."""
    return all([
        (scale.name, scale.name) in table and table[scale.name, scale.name] == Passage.same(scale.top)
        for scale in system.scales
    ])


def covers(table, source, link):
    """Whether a table allows for a link behind the entry that leads from a scale to its beginning."""
    if (source, link.target) not in table:
        return False
    return table[source, link.source] >> link.passage <= table[source, link.target]


def paper_holds(system, value):
    """Whether any value is a right paper."""
    tops = {scale.name: scale.top for scale in system.scales}
    if not isinstance(value, tuple) or not all([is_entry(entry, tops) for entry in value]):
        return False
    table = {(source, target): passage for source, target, passage in value}
    if len(table) != len(value) or not keeps_scales(system, table):
        return False
    return all([
        covers(table, source, link)
        for source, middle in table
        for link in system.links
        if link.source == middle
    ])
