"""Systems: scales with names, and the links between them."""

from scaleways.checks import is_name, is_number, is_numeral, is_sequence
from scaleways.errors import InvalidLink, InvalidPassage, InvalidScale, InvalidSystem
from scaleways.errors import InvalidText, InvalidWay, NoName
from scaleways.passages import Passage


def are_words(value, top):
    """Whether any value is a sequence of different names, one for each value up to top, or empty."""
    if not is_sequence(value) or len(value) not in (0, top + 1):
        return False
    return all([is_name(word) for word in value]) and len(set(value)) == len(value)


def are_scales(value):
    """Whether any value is a sequence of at least one scale, with different names."""
    if not is_sequence(value) or len(value) == 0:
        return False
    if not all([isinstance(scale, Scale) for scale in value]):
        return False
    return len({scale.name for scale in value}) == len(value)


def joins(link, tops):
    """Whether a link lies between scales with these names and tops."""
    if link.source not in tops or link.target not in tops:
        return False
    return link.passage.top == tops[link.source] and link.passage.target == tops[link.target]


def are_links(value, scales):
    """Whether any value is a sequence of links between these scales, with different names."""
    if not is_sequence(value) or not all([isinstance(link, Link) for link in value]):
        return False
    tops = {scale.name: scale.top for scale in scales}
    if not all([joins(link, tops) for link in value]):
        return False
    return len({link.name for link in value}) == len(value)


def named(things, name):
    """Return the one of these scales or links with a name, which may be any value, or None."""
    for thing in things:
        if thing.name == name:
            return thing
    return None


def united(scales, others):
    """Return the scales, then the other ones that are not among them."""
    found = list(scales)
    for other in others:
        scale = named(scales, other.name)
        if scale is None:
            found.append(other)
        elif scale != other:
            raise InvalidSystem("scales")
    return found


def links_along(system, names):
    """Return the links of a way, or raise InvalidWay if this is none."""
    if not is_sequence(names) or len(names) == 0:
        raise InvalidWay(0)
    links = []
    for at, name in enumerate(names):
        link = named(system.links, name)
        if link is None or (at > 0 and link.source != links[-1].target):
            raise InvalidWay(at)
        links.append(link)
    return links


def line_of_scale(scale):
    """Return the line that describes a scale."""
    return " ".join(["scale", scale.name, str(scale.top), *scale.words])


def line_of_link(link):
    """Return the line that describes a link."""
    return " ".join(["link", link.name, link.source, link.target, str(link.passage)])


def is_scale_line(words):
    """Whether the words of a line have the form of a scale."""
    if len(words) < 3 or words[0] != "scale" or not is_numeral(words[2]):
        return False
    return all([is_name(word) for word in [words[1], *words[3:]]])


def passage_behind(words):
    """Return the passage whose text ends the line of a link, or None if this is no such text."""
    try:
        return Passage.read(" ".join(words[4:]))
    except (InvalidText, InvalidPassage):
        return None


def scale_of_words(words):
    """Return the scale that the words of a line describe."""
    return Scale(words[1], int(words[2]), words[3:])


def link_of_words(words):
    """Return the link that the words of a line describe."""
    return Link(words[1], words[2], words[3], passage_behind(words))


def is_link_line(words):
    """Whether the words of a line have the form of a link."""
    if words[0] != "link" or not all([is_name(word) for word in words[1:4]]):
        return False
    return passage_behind(words) is not None


def check_lines(lines):
    """Raise InvalidText for the first line, cut into words, that does not have its form."""
    behind = False
    for at, words in enumerate(lines):
        if is_link_line(words):
            behind = True
        elif behind or not is_scale_line(words):
            raise InvalidText(at)


class Scale:
    """The values from 0 to top, which may have words."""

    def __init__(self, name, top, words=()):
        if not is_name(name):
            raise InvalidScale("name")
        if not is_number(top):
            raise InvalidScale("top")
        if not are_words(words, top):
            raise InvalidScale("words")
        self.name = name
        self.top = top
        self.words = tuple(words)

    def __eq__(self, other):
        if not isinstance(other, Scale):
            return NotImplemented
        return self.name == other.name and self.top == other.top and self.words == other.words


class Link:
    """A passage from the scale with one name to the scale with another one."""

    def __init__(self, name, source, target, passage):
        if not is_name(name):
            raise InvalidLink("name")
        if not is_name(source):
            raise InvalidLink("source")
        if not is_name(target):
            raise InvalidLink("target")
        if not isinstance(passage, Passage):
            raise InvalidLink("passage")
        self.name = name
        self.source = source
        self.target = target
        self.passage = passage

    def __eq__(self, other):
        if not isinstance(other, Link):
            return NotImplemented
        if self.name != other.name or self.source != other.source or self.target != other.target:
            return False
        return self.passage == other.passage


class System:
    """Some scales, and links between them."""

    def __init__(self, scales, links=()):
        if not are_scales(scales):
            raise InvalidSystem("scales")
        if not are_links(links, scales):
            raise InvalidSystem("links")
        self.scales = tuple(scales)
        self.links = tuple(links)

    @classmethod
    def read(cls, text):
        """Return the system with this text."""
        lines = [line.split(" ") for line in text.split("\n")]
        check_lines(lines)
        scales = [scale_of_words(words) for words in lines if words[0] == "scale"]
        return cls(scales, [link_of_words(words) for words in lines if words[0] == "link"])

    def scale(self, name):
        """Return the scale with this name."""
        found = named(self.scales, name)
        if found is None:
            raise NoName(name)
        return found

    def link(self, name):
        """Return the link with this name."""
        found = named(self.links, name)
        if found is None:
            raise NoName(name)
        return found

    def without(self, name):
        """Return the system without the link with this name."""
        gone = self.link(name)
        return System(self.scales, [link for link in self.links if link.name != gone.name])

    def way(self, names):
        """Return the product of the passages along a way."""
        links = links_along(self, names)
        whole = links[0].passage
        for link in links[1:]:
            whole = whole >> link.passage
        return whole

    def __add__(self, other):
        if not isinstance(other, System):
            return NotImplemented
        return System(united(self.scales, other.scales), [*self.links, *other.links])

    def __eq__(self, other):
        if not isinstance(other, System):
            return NotImplemented
        return self.scales == other.scales and self.links == other.links

    def __str__(self):
        scales = [line_of_scale(scale) for scale in self.scales]
        links = [line_of_link(link) for link in self.links]
        return "\n".join([*scales, *links])
