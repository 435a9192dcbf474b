"""Origins: the values from which ways have led to given results."""

from scaleways.checks import is_value
from scaleways.errors import InvalidWay, NoValue
from scaleways.passages import rows_of
from scaleways.pieces import greater, least_source, lesser
from scaleways.systems import links_along


def least_origin(links, y):
    """Return the least value that links lead to y or more.

    If there is none, return the number behind the greatest value.
    """
    # The number behind the greatest value of a scale goes on as this number of
    # the scale before it, so that nothing is special about it on the way.
    for link in links[::-1]:
        y = least_source(rows_of(link.passage), y)
    return y


def origins_along(links, value):
    """Return the least and the greatest value that links lead to this one.

    If there is none, the first one of both is greater than the second one.
    """
    return (least_origin(links, value), least_origin(links, value + 1) - 1)


def links_from(system, source, names):
    """Return the links of a way from this scale, or None if any value is no such way."""
    try:
        links = links_along(system, names)
    except InvalidWay:
        return None
    return links if links[0].source == source else None


def origins(system, source, results):
    """Return the least and the greatest value that all these ways map to these values, or None.

    The results are pairs (names, value).
    """
    low = 0
    high = system.scale(source).top
    for at, (names, value) in enumerate(results):
        links = links_from(system, source, names)
        if links is None:
            raise InvalidWay(at)
        if not is_value(value, links[-1].passage.target):
            raise NoValue(value)
        least, greatest = origins_along(links, value)
        low = greater(low, least)
        high = lesser(high, greatest)
    return (low, high) if low <= high else None
