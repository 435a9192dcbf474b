"""[18], [19], [20], [21]: all chains, compared with a search over all values."""

import unittest
from random import Random

from scaleways.chains import falling, growing, highest, lowest, reach
from scaleways.errors import NoName, NoValue
from scaleways.passages import Passage
from scaleways.resting import rest
from scaleways.systems import Link, Scale, System
from tests.support import FAR, HOUSE, NO_NAMES, NO_NUMBERS, around, bounds, distances, far_pieces, far_systems
from tests.support import found_values, moves, names_of, near_passage, random_system, results, shortest_change
from tests.support import small_systems

HALF = FAR // 2

LESS = Passage(FAR, FAR, [(0, 0, False), (1, 0, True)])

MORE = Passage(FAR, FAR, [(0, 1, True), (FAR, FAR, False)])


def loop(*passages):
    """Return a system of a great scale and passages of it to itself."""
    return System([Scale("a", FAR)], [Link("klmnopqr"[at], "a", "a", p) for at, p in enumerate(passages)])


def has_way(system, source, target):
    """Whether there is a way between two scales, or they are the same one."""
    return any(name == target for name, _ in distances(system, source, 0))


class SystemsTest(unittest.TestCase):
    def systems(self):
        """Return small systems of many shapes."""
        random = Random(180)
        found = small_systems(181, 150) + small_systems(182, 60, most=3, scales=5, links=8)
        for many in range(9):
            found += [random_system(random, [random.randint(0, 9)], many) for _ in range(4)]
            found += [random_system(random, [7, 9, 4, 6, 8], many) for _ in range(4)]
        return found


class ExtremesTest(SystemsTest):
    def test_small_systems(self):
        for system in self.systems():
            for source in names_of(system):
                for target in names_of(system):
                    self.check(system, source, target)

    def check(self, system, source, target):
        high, low = highest(system, source, target), lowest(system, source, target)
        if not has_way(system, source, target):
            self.assertEqual((high, low), (None, None))
            return
        found = found_values(system, source, target)
        self.assertEqual(results(high), [max(values) for values in found])
        self.assertEqual(results(low), [min(values) for values in found])
        for p in (high, low):
            self.assertEqual((p.top, p.target), (system.scale(source).top, system.scale(target).top))

    def test_house(self):
        self.assertEqual(str(highest(HOUSE, "fine", "fine")), "9 9 0=3 4=6 7=9")
        self.assertEqual(str(lowest(HOUSE, "fine", "size")), "9 2 0=0 4=1 7=2")

    def test_no_way(self):
        system = System([Scale("a", 3), Scale("b", 4), Scale("c", FAR)], [Link("l", "a", "b", Passage(3, 4, [(0, 1, True)]))])
        for source, target in (("b", "a"), ("a", "c"), ("c", "a"), ("b", "c"), ("c", "b")):
            self.assertIsNone(highest(system, source, target))
            self.assertIsNone(lowest(system, source, target))
        for ask in (highest, lowest):
            self.assertEqual(str(ask(system, "a", "b")), "3 4 0=1+")
            for name in names_of(system):
                self.assertEqual(ask(system, name, name), Passage.same(system.scale(name).top))

    def test_names(self):
        for ask in (highest, lowest):
            for name in (*NO_NAMES, "up", "down", "low", "a", "abc"):
                for source, target in ((name, "fine"), ("size", name), (name, None), (name, name)):
                    with self.assertRaises(NoName) as caught:
                        ask(HOUSE, source, target)
                    self.assertIs(caught.exception.name, name)


class FarExtremesTest(unittest.TestCase):
    def points(self, system, name):
        """Return values of a scale at and beside the bounds of the passages that begin there."""
        top = system.scale(name).top
        found = [0, top // 3, top]
        for link in system.links:
            if link.source == name:
                found += bounds(link.passage.pieces, top)
        return around(found, top)

    def tables(self, system, ask):
        """Return the answers for all pairs of scales."""
        return {(a, b): ask(system, a, b) for a in names_of(system) for b in names_of(system)}

    def test_one_link_more_leads_no_farther(self):
        for system in far_systems(183, 40):
            high, low = self.tables(system, highest), self.tables(system, lowest)
            for source, middle in high:
                if source == middle:
                    self.assertGreaterEqual(high[source, source], Passage.same(system.scale(source).top))
                    self.assertLessEqual(low[source, source], Passage.same(system.scale(source).top))
                for link in system.links:
                    if link.source == middle and high[source, middle] is not None:
                        self.assertLessEqual(high[source, middle] >> link.passage, high[source, link.target])
                        self.assertGreaterEqual(low[source, middle] >> link.passage, low[source, link.target])

    def walked(self, system, source, x, sign):
        """Return the greatest (sign 1) or least values that x becomes, link by link, or None if that takes long."""
        best = {source: x}
        for _ in range(400):
            before = dict(best)
            for name, value in before.items():
                for _, target, y in moves(system, (name, value)):
                    if target not in best or (y - best[target]) * sign > 0:
                        best[target] = y
            if best == before:
                return best
        return None

    def test_values_are_reached(self):
        many = 0
        for system in far_systems(184, 25):
            for source in names_of(system)[:2]:
                for ask, sign in ((highest, 1), (lowest, -1)):
                    answers = {name: ask(system, source, name) for name in names_of(system)}
                    for x in self.points(system, source)[::7]:
                        best = self.walked(system, source, x, sign)
                        if best is not None:
                            many += 1
                            told = {name: p(x) for name, p in answers.items() if p is not None}
                            self.assertEqual(told, best)
        self.assertGreater(many, 500)

    def test_sum_of_powers(self):
        random = Random(185)
        for _ in range(40):
            p = random.choice([near_passage(random, FAR, FAR), Passage(FAR, FAR, far_pieces(random, FAR, FAR))])
            same = Passage.same(FAR)
            self.assertEqual(highest(loop(p), "a", "a"), rest(same | p))
            self.assertEqual(lowest(loop(p), "a", "a"), rest(same & p))

    def test_million_million_links(self):
        self.assertEqual(str(highest(loop(MORE), "a", "a")), f"{FAR} {FAR} 0={FAR}")
        self.assertEqual(str(lowest(loop(MORE, LESS), "a", "a")), f"{FAR} {FAR} 0=0")
        self.assertEqual(highest(loop(LESS), "a", "a"), Passage.same(FAR))
        stop = Passage(FAR, FAR, [(0, 1, True), (HALF, HALF, False), (HALF + 1, HALF + 1, True)])
        self.assertEqual(str(highest(loop(LESS, stop), "a", "a")), f"{FAR} {FAR} 0={HALF} {HALF + 1}={HALF + 1}+")

    def test_around_five_scales(self):
        names = "abcde"
        for step in (1, 3, 10 ** 6):
            more = Passage(FAR, FAR, [(0, step, True), (HALF, HALF + step, False), (HALF + step, HALF + step, True)])
            links = [Link("klmno"[at], names[at], names[(at + 1) % 5], Passage.same(FAR) if at else more) for at in range(5)]
            system = System([Scale(name, FAR) for name in names], links)
            for source in names:
                p = highest(system, source, "c")
                least = p(0)
                self.assertEqual((p(1) >= least, least >= HALF, least <= HALF + step), (True, True, True))
                self.assertEqual((p(FAR), p(FAR - 1)), (FAR, FAR - 1))


class TripsTest(SystemsTest):
    def check(self, system, ask, sign):
        fewest = shortest_change(system, sign)
        trip = ask(system)
        if fewest is None:
            self.assertIsNone(trip)
            return
        self.check_trip(system, trip, sign)
        self.assertEqual(len(trip[0]), fewest)

    def check_trip(self, system, trip, sign):
        names, x = trip
        self.assertEqual((trip.__class__, names.__class__), (tuple, tuple))
        self.assertEqual(system.link(names[0]).source, system.link(names[-1]).target)
        self.assertGreater((system.way(names)(x) - x) * sign, 0)

    def test_small_systems(self):
        for system in self.systems():
            self.check(system, growing, 1)
            self.check(system, falling, -1)

    def test_house(self):
        self.assertEqual(growing(HOUSE)[0], ("up", "down"))
        self.assertIsNone(falling(HOUSE))
        self.assertEqual((growing(HOUSE.without("up")), growing(System([Scale("a", 0)]))), (None, None))

    def test_far_systems(self):
        for system in far_systems(191, 40):
            for ask, best, sign in ((growing, highest, 1), (falling, lowest, -1)):
                trip = ask(system)
                same = [best(system, name, name) == Passage.same(system.scale(name).top) for name in names_of(system)]
                self.assertEqual(trip is None, all(same))
                if trip is not None:
                    self.check_trip(system, trip, sign)

    def test_one_value_of_many(self):
        p = Passage(FAR, FAR, [(0, 0, True), (HALF, HALF + 1, False), (HALF + 1, HALF + 1, True)])
        self.assertEqual((growing(loop(p)), falling(loop(p))), ((("k",), HALF), None))
        p = Passage(FAR, FAR, [(0, 0, True), (HALF, HALF - 1, False), (HALF + 1, HALF + 1, True)])
        self.assertEqual((growing(loop(p)), falling(loop(p))), (None, (("k",), HALF)))
        self.assertEqual((growing(loop(LESS)), growing(loop(LESS, MORE))[0]), (None, ("l",)))
        self.assertEqual((falling(loop(MORE)), falling(loop(MORE, LESS))[0]), (None, ("l",)))

    def test_longest_trip(self):
        more = Passage(FAR, FAR, [(0, 0, True), (FAR - 1, FAR, False)])
        names = "abcde"
        for at in range(5):
            passages = [more if by == at else Passage.same(FAR) for by in range(5)]
            links = [Link("klmno"[by], names[by], names[(by + 1) % 5], passages[by]) for by in range(5)]
            system = System([Scale(name, FAR) for name in names], links)
            trip = growing(system)
            self.assertEqual((sorted(trip[0]), trip[1]), (list("klmno"), FAR - 1))
            self.check_trip(system, trip, 1)
            self.assertIsNone(falling(system))


class ReachTest(SystemsTest):
    def test_small_systems(self):
        for system in self.systems()[::2]:
            for source in system.scales:
                for x in range(source.top + 1):
                    found = distances(system, source.name, x)
                    for target in system.scales:
                        for y in range(target.top + 1):
                            way = reach(system, source.name, x, target.name, y)
                            self.check(system, (source.name, x), (target.name, y), way, found)

    def check(self, system, start, end, way, found):
        if end not in found:
            self.assertIsNone(way)
            return
        self.assertEqual((way.__class__, len(way)), (tuple, found[end]))
        for name in way:
            link = system.link(name)
            self.assertEqual(link.source, start[0])
            start = (link.target, link.passage(start[1]))
        self.assertEqual(start, end)

    def test_house(self):
        self.assertEqual(reach(HOUSE, "fine", 1, "fine", 3), ("up", "down"))
        self.assertIsNone(reach(HOUSE, "fine", 1, "fine", 2))
        self.assertEqual(reach(HOUSE, "fine", 1, "fine", 1), ())
        self.assertEqual(reach(HOUSE, "fine", 3, "fine", 3), ())
        self.assertIsNone(reach(HOUSE.without("up"), "fine", 0, "size", 0))

    def test_long_ways(self):
        more = Passage(60, 60, [(0, 1, True), (60, 60, False)])
        names = "abcde"
        links = [Link("klmno"[at], names[at], names[(at + 1) % 5], Passage.same(60) if at else more) for at in range(5)]
        system = System([Scale(name, 60) for name in names], links)
        self.assertEqual(reach(system, "a", 0, "e", 60), tuple("klmno" * 59 + "klmn"))
        self.assertIsNone(reach(system, "a", 1, "e", 0))

    def test_names(self):
        for name in (*NO_NAMES, "up", "down", "low", "abc"):
            for arguments in ((name, 0, "size", 0), ("fine", 0, name, 0), (name, 10, name, 3), ("fine", 10, name, None)):
                with self.assertRaises(NoName) as caught:
                    reach(HOUSE, *arguments)
                self.assertIs(caught.exception.name, name)

    def test_values(self):
        for value in (*NO_NUMBERS, 10, 60, FAR):
            for arguments in (("fine", value, "size", 0), ("size", 0, "fine", value), ("fine", value, "fine", value),
                              ("fine", value, "size", 3), ("fine", value, "size", None)):
                with self.assertRaises(NoValue) as caught:
                    reach(HOUSE, *arguments)
                self.assertIs(caught.exception.value, value)
        with self.assertRaises(NoValue) as caught:
            reach(HOUSE, "size", 3, "fine", 10)
        self.assertEqual(caught.exception.value, 3)


if __name__ == "__main__":
    unittest.main()
