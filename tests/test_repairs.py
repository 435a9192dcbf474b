"""[23]: repairs, compared with all sets of links."""

import unittest
from itertools import combinations
from random import Random

from scaleways.chains import growing, highest, lowest
from scaleways.passages import Passage
from scaleways.repairs import needless, strikes
from scaleways.systems import Link, Scale, System
from tests.support import FAR, HOUSE, HOUSE_TEXT, far_systems, found_values, names_of, near_passage, random_system
from tests.support import rid_of, shortest_change, small_systems

CALM = System.read(HOUSE_TEXT.replace("0=3 1=6 2=9", "0=0 1=4 2=7"))

SAME = Passage.same(FAR)

LESS = Passage(FAR, FAR, [(0, 0, False), (1, 0, True)])

MORE = Passage(FAR, FAR, [(0, 1, True), (FAR, FAR, False)])

ONE_MORE = Passage(FAR, FAR, [(0, 0, True), (FAR - 1, FAR, False)])

ZERO = Passage(FAR, FAR, [(0, 0, False)])


def all_sets(system):
    """Return all sets of names of links: shorter ones first, then ascending, each ascending."""
    names = sorted(link.name for link in system.links)
    return [gone for many in range(len(names) + 1) for gone in combinations(names, many)]


def least_sets(system, is_calm):
    """Return the sets of links without which a system is calm, but none of which a part suffices."""
    enough = [gone for gone in all_sets(system) if is_calm(rid_of(system, gone))]
    return tuple(gone for gone in enough if not any(set(part) < set(gone) for part in enough))


def is_calm(system):
    """Whether a search over all values finds no round trip that grows."""
    return shortest_change(system, 1) is None


def ends(system):
    """Return for all pairs of scales the greatest and the least values that each value can become."""
    found = {}
    for source in names_of(system):
        for target in names_of(system):
            values = found_values(system, source, target)
            found[source, target] = [(max(ys), min(ys)) if ys else None for ys in values]
    return found


def far_ends(system):
    """Return the highest and the lowest passages of all pairs of scales."""
    names = names_of(system)
    return [ask(system, source, target) for source in names for target in names for ask in (highest, lowest)]


def nearly_calm(seed, many, links):
    """Return random systems with so many links, whose round trips seldom grow."""
    random = Random(seed)
    found = []
    for _ in range(many):
        top = random.randint(1, 2)
        names = "abcde"[:random.randint(2, 5)]
        made = []
        for at in range(links):
            shift = random.choice([-1, -1, 0, 0, 0, 1])
            values = [max(0, min(top, x + random.choice([0, shift]))) for x in range(top + 1)]
            source, target = random.sample(names, 2)
            made.append(Link("klmnopqr"[at], source, target, Passage.table(sorted(values), top)))
        found.append(System([Scale(name, top) for name in names], made))
    return found


def nearly_calm_far(seed, many):
    """Return random systems at the limits of [3], most of whose links map no value to a greater one."""
    random = Random(seed)
    found = []
    for _ in range(many):
        names = "abcde"[:random.randint(3, 5)]
        made = []
        for at in range(8):
            source, target = names[at % len(names)], names[(at + 1) % len(names)]
            if at >= len(names):
                source, target = random.sample(names, 2)
            p = near_passage(random, FAR, FAR)
            made.append(Link("klmnopqr"[at], source, target, p if random.random() < 0.1 else p & SAME))
        found.append(System([Scale(name, FAR) for name in names], made))
    return found


def rows(*links):
    """Return a system of great scales with links from rows (name, source, target, passage)."""
    names = sorted({name for _, source, target, _ in links for name in (source, target)})
    return System([Scale(name, FAR) for name in names], [Link(*link) for link in links])


class StrikesTest(unittest.TestCase):
    def check(self, system, calm):
        found = strikes(system)
        self.assertEqual(found, least_sets(system, calm), str(system))
        self.assertEqual(found, tuple(sorted(found, key=lambda gone: (len(gone), gone))))
        for part in (found, *found):
            self.assertIs(part.__class__, tuple)
        return found

    def test_small_systems(self):
        found = []
        for system in small_systems(231, 300, most=3) + nearly_calm(232, 1500, 6):
            found.append(self.check(system, is_calm))
        self.assertGreater(found.count(((),)), 20)
        self.assertGreater(len([sets for sets in found if len(sets) > 2]), 20)
        self.assertGreater(len([sets for sets in found if len(sets[0]) != len(sets[-1])]), 10)

    def test_eight_links(self):
        random = Random(233)
        for tops in ([3], [2, 3], [1, 2, 2], [2, 1, 1, 2], [1, 2, 1, 2, 1]):
            self.check(random_system(random, tops, 8), is_calm)
        for system in nearly_calm(239, 60, 8):
            self.check(system, is_calm)

    def test_far_systems(self):
        systems = [system for scales in (1, 2, 3, 5) for system in far_systems(234, 5, scales=scales)]
        found = []
        for system in systems + nearly_calm_far(240, 15):
            found.append(self.check(system, lambda system: growing(system) is None))
        self.assertGreater(len([sets for sets in found if len(sets[-1]) > len(sets[0])]), 3)

    def test_house(self):
        self.assertEqual(strikes(HOUSE), (("down",), ("up",)))
        self.assertEqual(strikes(HOUSE + System.read(HOUSE_TEXT.replace("up", "too").replace("down", "fall"))), (
            ("down", "fall"), ("too", "up"),
        ))

    def test_nothing_grows(self):
        for system in (CALM, HOUSE.without("up"), HOUSE.without("down"), System([Scale("a", 0)]), System([Scale("a", FAR)]),
                       rows(("k", "a", "a", LESS), ("l", "a", "a", SAME)), rows(("k", "a", "b", LESS), ("l", "b", "a", ZERO))):
            self.assertEqual(strikes(system), ((),))

    def test_shorter_ones_come_first(self):
        system = rows(("z", "a", "b", MORE), ("b", "b", "a", SAME), ("a", "b", "a", SAME))
        self.assertEqual(strikes(system), (("z",), ("a", "b")))
        system = rows(("z", "a", "b", ONE_MORE), ("a", "b", "a", SAME), ("ab", "b", "a", SAME), ("b", "b", "a", ZERO))
        self.assertEqual(strikes(system), (("z",), ("a", "ab")))

    def test_order_of_the_names(self):
        system = rows(("b", "a", "a", MORE), ("ab", "a", "a", ONE_MORE), ("a", "a", "a", MORE), ("aa", "a", "a", SAME))
        self.assertEqual(strikes(system), (("a", "ab", "b"),))
        pairs = rows(("d", "a", "b", MORE), ("a", "b", "a", SAME), ("c", "c", "d", ONE_MORE), ("b", "d", "c", SAME))
        self.assertEqual(strikes(pairs), (("a", "b"), ("a", "c"), ("b", "d"), ("c", "d")))

    def test_together_only(self):
        # Each link by itself is harmless, all five in a row grow at a single value.
        names = "abcde"
        links = [("klmno"[at], names[at], names[(at + 1) % 5], ONE_MORE if at == 3 else SAME) for at in range(5)]
        self.assertEqual(strikes(rows(*links)), (("k",), ("l",), ("m",), ("n",), ("o",)))
        self.assertEqual(strikes(rows(*links, ("a", "a", "a", ONE_MORE))), (("a", "k"), ("a", "l"), ("a", "m"), ("a", "n"), ("a", "o")))

    def test_strikes_suffice(self):
        for system in far_systems(235, 20):
            for gone in strikes(system):
                left = system
                for name in gone:
                    left = left.without(name)
                self.assertIsNone(growing(left))


class NeedlessTest(unittest.TestCase):
    def check(self, system, answers):
        whole = answers(system)
        names = sorted(link.name for link in system.links)
        expected = tuple(name for name in names if answers(rid_of(system, [name])) == whole)
        found = needless(system)
        self.assertEqual((found, found.__class__), (expected, tuple), str(system))
        return found

    def test_small_systems(self):
        found = []
        for system in small_systems(236, 800, most=4) + small_systems(237, 200, most=2, scales=5, links=8):
            found.append(self.check(system, ends))
        self.assertGreater(found.count(()), 20)
        self.assertGreater(len([names for names in found if len(names) > 1]), 20)

    def test_far_systems(self):
        for scales, many in ((1, 15), (2, 10), (3, 5), (5, 2)):
            for system in far_systems(238, many, scales=scales):
                self.check(system, far_ends)

    def test_house(self):
        self.assertEqual(needless(HOUSE), ())
        again = System.read(HOUSE_TEXT.replace("up", "too").replace("down", "fall"))
        self.assertEqual(needless(HOUSE + again), ("down", "fall", "too", "up"))
        self.assertEqual(needless(again + HOUSE), ("down", "fall", "too", "up"))

    def test_no_links(self):
        self.assertEqual(needless(System([Scale("a", 0), Scale("b", FAR)])), ())

    def test_both_count(self):
        # The first one is needed for the greatest results only, the second one for the least ones.
        self.assertEqual(needless(rows(("k", "a", "a", MORE), ("l", "a", "a", LESS), ("m", "a", "a", SAME))), ("m",))
        self.assertEqual(needless(rows(("k", "a", "b", SAME), ("l", "a", "b", LESS))), ())
        self.assertEqual(needless(rows(("k", "a", "b", SAME), ("l", "a", "b", MORE))), ())

    def test_the_only_way(self):
        self.assertEqual(needless(rows(("k", "a", "b", SAME), ("l", "b", "b", SAME))), ("l",))
        self.assertEqual(needless(rows(("k", "a", "b", SAME), ("l", "b", "c", SAME), ("m", "a", "c", SAME))), ("m",))

    def test_one_value_of_many(self):
        half = FAR // 2
        bump = Passage(FAR, FAR, [(0, 0, True), (half, half + 1, False), (half + 1, half + 1, True)])
        self.assertEqual(needless(rows(("k", "a", "b", SAME), ("l", "a", "b", bump))), ())
        self.assertEqual(needless(rows(("k", "a", "b", bump), ("l", "a", "b", bump))), ("k", "l"))


class LimitsTest(unittest.TestCase):
    def test_beyond_the_limits(self):
        names = "abcdef"
        links = [("kl"[by] + names[at], names[at], names[(at + 1) % 6], MORE) for at in range(6) for by in range(2)]
        found = strikes(rows(*links))
        self.assertEqual(found, tuple(("k" + name, "l" + name) for name in names))
        self.assertEqual(needless(rows(*links)), tuple(sorted(name for name, _, _, _ in links)))


if __name__ == "__main__":
    unittest.main()
