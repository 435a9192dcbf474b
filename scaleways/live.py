"""Live values: items that move along the links of a system, and whose moves can be taken back.

A stop is a triple (scale, value, link): where an item has come, and the link along
which it came there, None where it was put.
"""

from scaleways.checks import is_name, is_value
from scaleways.errors import InvalidScale, NoName, NoValue, Refused
from scaleways.origins import origins_along


def next_stop(system, stop, many, name):
    """Return the stop behind another one along the link with a name, which may be any value.

    So many moves have been made before.
    """
    link = system.link(name)
    scale, value, _ = stop
    if link.source != scale:
        raise Refused(many)
    return (link.target, link.passage(value), link)


class Live:
    """Items with names, each on a scale of a system, with a value."""

    def __init__(self, system):
        self.system = system
        # The stops of each item, by its name.
        self._trails = {}
        # For each change the name of its item, and how many stops that had before.
        self._past = []

    @property
    def names(self):
        """The names of the items, in the order in which they were put."""
        return tuple(list(self._trails))

    def _stops(self, name):
        """Return the stops of the item with a name, which may be any value."""
        if name not in self:
            raise NoName(name)
        return self._trails[name]

    def _go_on(self, name, stops):
        """Let an item, perhaps a new one, go on to these stops, as one change."""
        before = self._trails.setdefault(name, [])
        self._past.append((name, len(before)))
        before.extend(stops)

    def put(self, name, scale, value):
        """Add an item with this name."""
        if not is_name(name) or name in self:
            raise InvalidScale("name")
        if not is_value(value, self.system.scale(scale).top):
            raise NoValue(value)
        self._go_on(name, [(scale, value, None)])

    def send(self, name, link):
        """Move an item along a link, and return its new value."""
        stops = self._stops(name)
        stop = next_stop(self.system, stops[-1], len(stops) - 1, link)
        self._go_on(name, [stop])
        return stop[1]

    def sends(self, name, links):
        """Move an item along all these links, and return its new values."""
        stops = self._stops(name)
        stop = stops[-1]
        found = []
        for at, link in enumerate(links):
            try:
                stop = next_stop(self.system, stop, len(stops) - 1 + at, link)
            except (NoName, Refused) as why:
                raise Refused(at) from why
            found.append(stop)
        self._go_on(name, found)
        return tuple([value for _, value, _ in found])

    def path(self, name):
        """Return the names of the links along which an item came."""
        return tuple([link.name for _, _, link in self._stops(name)[1:]])

    def start(self, name):
        """Return the least and the greatest value from which an item can have come by its path."""
        stops = self._stops(name)
        return origins_along([link for _, _, link in stops[1:]], stops[-1][1])

    def undo(self):
        """Take back the last change, and return whether there was one."""
        if len(self._past) == 0:
            return False
        name, many = self._past.pop()
        if many == 0:
            del self._trails[name]
        else:
            del self._trails[name][many:]
        return True

    def within(self, work):
        """Return the result of work(live), and take back all that it has changed."""
        trails = {name: list(self._trails[name]) for name in self._trails}
        past = list(self._past)
        try:
            return work(self)
        finally:
            self._trails = trails
            self._past = past

    def __len__(self):
        return len(self._trails)

    def __contains__(self, x):
        return isinstance(x, str) and x in self._trails

    def __getitem__(self, at):
        scale, value, _ = self._stops(at)[-1]
        return (scale, value)

    def __iter__(self):
        raise TypeError("a Live is not iterable")
