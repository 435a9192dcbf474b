"""Repairs: the links without which nothing grows, and those without which nothing changes."""

from scaleways.chains import growing
from scaleways.extremes import extremes
from scaleways.systems import System


def link_names(system):
    """Return the ascending names of the links."""
    return sorted([str(link.name) for link in system.links])


def rid_of(system, names):
    """Return the system without the links with these names."""
    return System(system.scales, [link for link in system.links if link.name not in names])


def is_part(names, others):
    """Whether all names are among the other ones."""
    return all([name in others for name in names])


def is_apart(names, others):
    """Whether no name is among the other ones."""
    return all([name not in others for name in names])


def trip_left(system, trips, gone):
    """Return some round trip that grows without the links that are gone, or None.

    It is one of the known trips, where one of them is left.
    """
    for trip in trips:
        if is_apart(trip, gone):
            return trip
    found = growing(rid_of(system, gone))
    return None if found is None else found[0]


def one_more(sets, names):
    """Return the ascending sets that have one more of the names behind those of a given set."""
    return [
        (*gone, name)
        for gone in sets
        for name in names
        if len(gone) == 0 or name > gone[-1]
    ]


def strikes(system):
    """Return all least sets of links without which no round trip grows."""
    names = link_names(system)
    found = []
    trips = []
    sets = [()]
    # The shorter sets come first: each one that suffices and has none of those
    # found as a part is a least one.
    while len(sets) > 0:
        failed = []
        for gone in sets:
            if any([is_part(strike, gone) for strike in found]):
                continue
            trip = trip_left(system, trips, gone)
            if trip is None:
                found.append(gone)
                continue
            failed.append(gone)
            if trip not in trips:
                trips.append(trip)
        sets = one_more(failed, names)
    return tuple(found)


def needless(system):
    """Return the names of the links without which, each alone, all greatest and least results stay."""
    highs = extremes(system, True)
    lows = extremes(system, False)
    return tuple([
        name
        for name in link_names(system)
        if extremes(system.without(name), True) == highs and extremes(system.without(name), False) == lows
    ])
