"""[24]: origins, compared with trying all values."""

import unittest
from random import Random

from scaleways.errors import InvalidWay, NoName, NoValue
from scaleways.origins import origins
from scaleways.passages import Passage
from scaleways.systems import Link, Scale, System
from tests.support import FAR, HOUSE, NO_NAMES, NO_NUMBERS, far_systems, first_from, random_way, small_systems

NO_WAYS = (
    *NO_NUMBERS, 0, 3, "up", "down", "fine", ["fine"], ["size"], ["down"], ("down", "up"), ["up", "up"], ["up", "down", "down"],
    ["up", None], [None, "up"], [["up"]], ["up", ["down"]], ("up", ("down",)), [True], ["up", 3], [["up"], ["down"]], ["upp"],
)


def walked(system, names, x):
    """Return the value to which a way maps x, link by link."""
    for name in names:
        x = system.link(name).passage(x)
    return x


def expected(system, source, results):
    """Return all values of a scale that all these ways map to these values."""
    return [
        x for x in range(system.scale(source).top + 1)
        if all(walked(system, names, x) == value for names, value in results)
    ]


def end_of(system, names):
    """Return the greatest value of the scale where a way ends."""
    return system.link(names[-1]).passage.target


class OriginsTest(unittest.TestCase):
    def some_results(self, random, system, source, many):
        """Return up to so many results of ways from a scale, mostly such as one value has."""
        x = random.randint(0, system.scale(source).top)
        found = []
        for _ in range(many):
            names = random_way(random, system, source, 5)
            if names:
                value = walked(system, names, x)
                if random.random() < 0.2:
                    value = random.randint(0, end_of(system, names))
                found.append((random.choice([list, tuple])(names), value))
        return found

    def test_small_systems(self):
        random = Random(241)
        told = []
        for system in small_systems(242, 300, most=9):
            for scale in system.scales:
                for many in (0, 1, 1, 2, 3, 5):
                    results = self.some_results(random, system, scale.name, many)
                    found = origins(system, scale.name, random.choice([list, tuple])(results))
                    values = expected(system, scale.name, results)
                    self.assertEqual(found, (values[0], values[-1]) if values else None, (str(system), results))
                    if values:
                        self.assertEqual(values, list(range(found[0], found[1] + 1)))
                        self.assertIs(found.__class__, tuple)
                    told.append(found is None)
        self.assertGreater(told.count(True), 200)

    def test_each_value_of_each_link(self):
        for system in small_systems(243, 100, most=6):
            for link in system.links:
                for y in range(link.passage.target + 1):
                    results = [((link.name,), y)]
                    self.assertEqual(origins(system, link.source, results), link.passage.sources(y))
                    self.assertEqual(origins(system, link.source, results * 2), link.passage.sources(y))

    def test_house(self):
        self.assertEqual(origins(HOUSE, "fine", [(["up"], 1)]), (4, 6))
        self.assertIsNone(origins(HOUSE, "fine", [(["up"], 1), (["up", "down"], 9)]))
        self.assertEqual(origins(HOUSE, "fine", [(["up"], 1), (("up", "down"), 6), (["up"], 1)]), (4, 6))
        self.assertIsNone(origins(HOUSE, "fine", [(["up"], 1), (["up"], 2)]))
        self.assertIsNone(origins(HOUSE, "size", [(["down"], 5)]))
        self.assertIsNone(origins(HOUSE, "size", [(["down"], 5), (["down"], 6)]))
        self.assertIsNone(origins(HOUSE, "size", [(["down"], 6), (["down"], 5)]))
        self.assertEqual(origins(HOUSE, "size", [(["down"], 6)]), (1, 1))

    def test_no_results(self):
        for results in ([], ()):
            self.assertEqual(origins(HOUSE, "fine", results), (0, 9))
            self.assertEqual(origins(HOUSE, "size", results), (0, 2))
            self.assertEqual(origins(System([Scale("a", FAR), Scale("b", 0)]), "a", results), (0, FAR))
            self.assertEqual(origins(System([Scale("a", FAR), Scale("b", 0)]), "b", results), (0, 0))

    def test_neighbours_meet(self):
        # Two results that leave one value, and two that leave none, side by side.
        scales = [Scale("a", 9), Scale("b", 9)]
        low = Passage.table([0, 0, 0, 1, 1, 1, 2, 2, 2, 2], 9)
        high = Passage.table([0, 0, 0, 0, 0, 3, 3, 3, 3, 3], 9)
        system = System(scales, [Link("k", "a", "b", low), Link("l", "a", "b", high)])
        self.assertEqual(origins(system, "a", [(["k"], 1), (["l"], 3)]), (5, 5))
        self.assertEqual(origins(system, "a", [(["k"], 1), (["l"], 0)]), (3, 4))
        self.assertIsNone(origins(system, "a", [(["k"], 0), (["l"], 3)]))
        self.assertIsNone(origins(system, "a", [(["k"], 3), (["l"], 3)]))

    def test_far_systems(self):
        random = Random(244)
        many = 0
        for system in far_systems(245, 60) + far_systems(246, 30, scales=2):
            source = random.choice(system.scales)
            x = random.randint(0, source.top)
            ways = [random_way(random, system, source.name, 20) for _ in range(3)]
            results = [(names, walked(system, names, x)) for names in ways if names]
            low, high = 0, source.top
            for names, value in results:
                low = max(low, first_from(lambda z: walked(system, names, z) >= value, source.top))
                high = min(high, first_from(lambda z: walked(system, names, z) > value, source.top) - 1)
            self.assertEqual(origins(system, source.name, results), (low, high))
            self.assertTrue(low <= x <= high)
            many += len(results)
        self.assertGreater(many, 100)


class WrongTest(unittest.TestCase):
    def raises(self, error, *arguments):
        with self.assertRaises(error) as caught:
            origins(*arguments)
        return caught.exception

    def test_names(self):
        for name in (*NO_NAMES, "up", "low", "a", "abc"):
            for results in ([], [(["up"], 1)], [([], None)], [(None, None), (["up"], 3)]):
                self.assertIs(self.raises(NoName, HOUSE, name, results).name, name)

    def test_ways(self):
        for names in NO_WAYS:
            for value in (0, 9, 10, None, [True]):
                self.assertEqual(self.raises(InvalidWay, HOUSE, "fine", [(names, value)]).at, 0)
                self.assertEqual(self.raises(InvalidWay, HOUSE, "fine", [(["up"], 0), (names, value)]).at, 1)
                results = ((["up"], 0), (["up", "down"], 3), (names, value), (names, value), (["up"], 3))
                self.assertEqual(self.raises(InvalidWay, HOUSE, "fine", results).at, 2)

    def test_ways_from_elsewhere(self):
        self.assertEqual(self.raises(InvalidWay, HOUSE, "size", [(["up"], 1)]).at, 0)
        self.assertEqual(self.raises(InvalidWay, HOUSE, "fine", [(["down"], 3)]).at, 0)
        self.assertEqual(self.raises(InvalidWay, HOUSE, "size", [(["down", "up"], 1), (["up"], 1)]).at, 1)

    def test_the_index_is_that_in_results(self):
        self.assertEqual(self.raises(InvalidWay, HOUSE, "fine", [(["up", "down", "down"], 3)]).at, 0)
        self.assertEqual(self.raises(InvalidWay, HOUSE, "fine", [(["up"], 1)] * 5 + [([], 1)]).at, 5)

    def test_values(self):
        for value in (*NO_NUMBERS, 3, 9, 10, FAR):
            for names in (["up"], ("up", "down", "up")):
                self.assertIs(self.raises(NoValue, HOUSE, "fine", [(names, value)]).value, value)
                self.assertIs(self.raises(NoValue, HOUSE, "fine", [(["up"], 1), (names, value)]).value, value)
        for value in (*NO_NUMBERS, 10, FAR):
            self.assertIs(self.raises(NoValue, HOUSE, "size", [(["down"], value)]).value, value)
        self.assertIsNone(origins(HOUSE, "size", [(["down"], 4)]))

    def test_the_first_wrong_pair(self):
        self.assertEqual(self.raises(NoValue, HOUSE, "fine", [(["up"], 3), (["down"], 3)]).value, 3)
        self.assertEqual(self.raises(InvalidWay, HOUSE, "fine", [(["up"], 1), (["down"], 3), (["up"], 3)]).at, 1)
        self.assertEqual(self.raises(InvalidWay, HOUSE, "fine", [(["down"], None), (["up"], 3)]).at, 0)

    def test_wrong_pairs_behind_none(self):
        before = [(["up"], 1), (["up"], 2)]
        self.assertEqual(self.raises(InvalidWay, HOUSE, "fine", before + [(["down"], 3)]).at, 2)
        self.assertEqual(self.raises(NoValue, HOUSE, "fine", before + [(["up"], 3)]).value, 3)


if __name__ == "__main__":
    unittest.main()
