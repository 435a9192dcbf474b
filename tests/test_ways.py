"""[16]: the products along ways."""

import unittest
from itertools import product

from scaleways.errors import InvalidWay
from scaleways.passages import Passage
from scaleways.systems import Link, Scale, System
from tests.support import FAR, HOUSE, NO_NAMES, NO_NUMBERS, far_systems, results, small_systems


def is_way(system, names):
    """Whether these names of links follow one another."""
    links = [system.link(name) for name in names]
    return all(links[at].target == links[at + 1].source for at in range(len(links) - 1))


class WayTest(unittest.TestCase):
    def wrong(self, at, system, names):
        with self.assertRaises(InvalidWay) as caught:
            system.way(names)
        self.assertEqual(caught.exception.at, at)

    def test_house(self):
        self.assertEqual(str(HOUSE.way(["up"])), "9 2 0=0 4=1 7=2")
        self.assertEqual(str(HOUSE.way(("up", "down"))), "9 9 0=3 4=6 7=9")
        self.assertEqual(str(HOUSE.way(["down", "up"])), "2 2 0=0+")
        self.assertEqual(results(HOUSE.way(["up", "down", "up"])), results(HOUSE.way(["up"])))

    def test_all_short_ways(self):
        for system in small_systems(16, 40):
            names = [link.name for link in system.links]
            for length in (1, 2, 3):
                for way in product(names, repeat=length):
                    if is_way(system, way):
                        self.check(system, way)
                    else:
                        bad = [at for at in range(1, length) if not is_way(system, way[:at + 1])]
                        self.wrong(bad[0], system, list(way))

    def check(self, system, way):
        values = list(range(system.scale(system.link(way[0]).source).top + 1))
        for name in way:
            values = [system.link(name).passage(x) for x in values]
        passage = system.way(way)
        self.assertEqual(results(passage), values)
        self.assertEqual(passage.target, system.scale(system.link(way[-1]).target).top)

    def test_long_ways(self):
        for system in far_systems(17, 10, scales=1, links=3):
            way = ["k", "l", "m", "m"] * 5
            passage = system.way(way)
            for x in (0, 1, 10 ** 6, FAR // 3, system.scales[0].top):
                value = x
                for name in way:
                    value = system.link(name).passage(value)
                self.assertEqual(passage(x), value)

    def test_no_sequences(self):
        for names in [value for value in NO_NUMBERS if not isinstance(value, (list, tuple))] + [0, 3, "up", {"up": 1}]:
            self.wrong(0, HOUSE, names)
        for names in ([], (), "", {}):
            self.wrong(0, HOUSE, names)

    def test_no_names(self):
        for name in (*NO_NAMES, "a", "fine", "size", "low", "upp", "u", "abc"):
            self.wrong(0, HOUSE, [name])
            self.wrong(0, HOUSE, (name, "up"))
            self.wrong(1, HOUSE, ["up", name])
            self.wrong(1, HOUSE, ["up", name, name])
            self.wrong(2, HOUSE, ("up", "down", name, "up"))

    def test_breaks(self):
        self.wrong(1, HOUSE, ["up", "up"])
        self.wrong(1, HOUSE, ["down", "down", "up"])
        self.wrong(3, HOUSE, ["up", "down", "up", "up", "none"])
        self.wrong(2, HOUSE, ["up", "down", None, "up"])
        self.wrong(0, System([Scale("a", 3)]), ["up"])

    def test_around_one_scale(self):
        system = System([Scale("a", FAR)], [Link("l", "a", "a", Passage(FAR, FAR, [(0, 0, False), (1, 0, True)]))])
        self.assertEqual(str(system.way(["l"] * 20)), f"{FAR} {FAR} 0=0 21=1+")


if __name__ == "__main__":
    unittest.main()
