"""Desks: commands in words, and what they answer."""

from scaleways.chains import growing
from scaleways.checks import is_numeral
from scaleways.errors import InvalidCommand
from scaleways.live import Live
from scaleways.repairs import strikes
from scaleways.systems import System


def words_of(command):
    """Return the words of a command, or raise InvalidCommand if any value has none or an empty one."""
    if not isinstance(command, str) or "\n" in command:
        raise InvalidCommand()
    words = command.split(" ")
    if "" in words:
        raise InvalidCommand()
    return words


def value_of_word(scale, word):
    """Return the value of a scale that a word stands for."""
    if len(scale.words) > 0:
        if word not in scale.words:
            raise InvalidCommand()
        return scale.words.index(word)
    if not is_numeral(word):
        raise InvalidCommand()
    return int(word)


def word_of_value(scale, value):
    """Return the word that stands for a value of a scale."""
    return scale.words[value] if len(scale.words) > 0 else str(value)


def put_item(live, name, scale, word):
    """Add an item."""
    live.put(name, scale, value_of_word(live.system.scale(scale), word))
    return "put"


def send_item(live, name, link):
    """Move an item along a link, and tell its new value."""
    value = live.send(name, link)
    return word_of_value(live.system.scale(live[name][0]), value)


def show_item(live, name):
    """Tell the scale and the value of an item."""
    scale, value = live[name]
    return " ".join([scale, word_of_value(live.system.scale(scale), value)])


def first_scale(live, name):
    """Return the scale where an item was put."""
    path = live.path(name)
    first = live[name][0] if len(path) == 0 else live.system.link(path[0]).source
    return live.system.scale(first)


def show_start(live, name):
    """Tell the least and the greatest value from which an item can have come."""
    scale = first_scale(live, name)
    low, high = live.start(name)
    return " ".join([word_of_value(scale, low), word_of_value(scale, high)])


def tell_growing(live):
    """Tell the links of a round trip that grows."""
    trip = growing(live.system)
    return "never" if trip is None else " ".join(trip[0])


def tell_strikes(live):
    """Tell the least sets of links without which nothing grows."""
    return " or ".join([" ".join(names) if len(names) > 0 else "nothing" for names in strikes(live.system)])


def take_back(live):
    """Take back the last change."""
    return "undone" if live.undo() else "nothing"


# What the commands do, but for the one that needs no live object.
ACTIONS = {
    "put": put_item, "send": send_item, "show": show_item, "start": show_start,
    "grows": tell_growing, "strikes": tell_strikes, "undo": take_back,
}

# How many words stand behind the first one.
COUNTS = {"put": 3, "send": 2, "show": 1, "start": 1, "grows": 0, "strikes": 0, "undo": 0}


class Desk:
    """A place where commands are executed on a live object."""

    def __init__(self):
        self.live = None

    def say(self, command):
        """Execute a command, and return its result."""
        words = words_of(command)
        parts = words[1:]
        if words[0] == "system" and len(parts) > 0:
            return self._begin(" ".join(parts))
        if self.live is None or COUNTS.get(words[0]) != len(parts):
            raise InvalidCommand()
        action = ACTIONS[words[0]]
        return action(self.live, *parts)

    def _begin(self, text):
        """Take a new live object for the system with this text, and tell the number of its links."""
        system = System.read(text.replace(" ; ", "\n"))
        self.live = Live(system)
        return str(len(system.links))
