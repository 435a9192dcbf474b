"""[22]: papers, and whether any value is a right one."""

import unittest
from random import Random

from scaleways.chains import growing
from scaleways.papers import paper, paper_holds
from scaleways.passages import Passage
from scaleways.systems import Link, Scale, System
from tests.support import FAR, HOUSE, HOUSE_TEXT, NO_NAMES, NO_NUMBERS, far_systems, random_passage, results, small_systems

CALM = System.read(HOUSE_TEXT.replace("0=3 1=6 2=9", "0=0 1=4 2=7"))

SAME = Passage.same(FAR)

LESS = Passage(FAR, FAR, [(0, 0, False), (1, 0, True)])

MORE = Passage(FAR, FAR, [(0, 1, True), (FAR, FAR, False)])


def is_right(system, entries):
    """Whether triples of names of scales and passages are a right paper, value by value."""
    table = {}
    for source, target, p in entries:
        if p.top != system.scale(source).top or p.target != system.scale(target).top or (source, target) in table:
            return False
        table[source, target] = results(p)
    for scale in system.scales:
        if table.get((scale.name, scale.name)) != list(range(scale.top + 1)):
            return False
    for source, middle in table:
        for link in [link for link in system.links if link.source == middle]:
            if (source, link.target) not in table:
                return False
            pairs = zip(table[source, middle], table[source, link.target])
            if any(link.passage(y) > most for y, most in pairs):
                return False
    return True


def changed(random, system, entries):
    """Return triples like these, of which one or two are changed, left out or added."""
    found = list(entries)
    for _ in range(random.choice([1, 1, 2])):
        at = random.randrange(len(found)) if found else 0
        source, target = random.choice(system.scales), random.choice(system.scales)
        new = (source.name, target.name, random_passage(random, source.top, target.top))
        kind = random.randrange(6)
        if kind == 0 or not found:
            found.insert(at, new)
        elif kind == 1:
            found.pop(at)
        elif kind == 2:
            found[at] = new
        elif kind == 3:
            found[at] = (new[0], *found[at][1:])
        elif kind == 4:
            found[at] = (found[at][0], new[1], found[at][2])
        else:
            found[at] = (*found[at][:2], shifted(random, found[at][2]))
    return tuple(found)


def shifted(random, p):
    """Return a passage that maps one value to a value one greater or less, where that is one."""
    values = results(p)
    x = random.randrange(len(values))
    values[x] = max(0, min(p.target, values[x] + random.choice([-1, 1])))
    return Passage.table(sorted(values), p.target)


class PaperTest(unittest.TestCase):
    def check(self, system):
        value = paper(system)
        self.assertEqual(value is None, growing(system) is not None)
        if value is not None:
            self.assertIs(paper_holds(system, value), True)
            self.assertTrue(all(entry.__class__ is tuple for entry in (value, *value)))
        return value

    def test_small_systems(self):
        calm = 0
        for system in small_systems(221, 300) + small_systems(222, 100, most=2, scales=5, links=8):
            value = self.check(system)
            if value is not None:
                calm += 1
                self.assertTrue(is_right(system, value))
        self.assertGreater(calm, 100)

    def test_far_systems(self):
        for system in far_systems(223, 30, links=3) + far_systems(224, 30):
            self.check(system)

    def test_house(self):
        self.assertIsNone(paper(HOUSE))
        value = paper(CALM)
        self.assertTrue(paper_holds(CALM, value))
        self.assertFalse(paper_holds(CALM, value[1:]))
        self.assertFalse(paper_holds(HOUSE, value))
        self.assertFalse(paper_holds(System([Scale("fine", 9)]), value))
        self.assertTrue(paper_holds(CALM.without("up"), value))

    def test_million_million_values(self):
        system = System([Scale("a", FAR), Scale("b", FAR)], [
            Link("k", "a", "b", LESS), Link("l", "b", "a", SAME), Link("m", "b", "b", LESS),
        ])
        self.assertEqual(len(self.check(system)), 4)
        for forth, back, right in (
            (LESS, SAME, True), (SAME, SAME, True), (LESS, MORE, True), (SAME, MORE, True), (MORE, SAME, False),
            (LESS >> LESS, SAME, False), (LESS, LESS, False), (LESS, MORE >> MORE, False), (MORE, LESS, False),
            (Passage(FAR, FAR, [(0, 0, True), (FAR, FAR - 1, False)]), SAME, True),
            (Passage(FAR, FAR, [(0, 0, False), (1, 0, True), (FAR, FAR - 2, False)]), SAME, False),
        ):
            value = (("a", "a", SAME), ("b", "b", SAME), ("b", "a", back), ("a", "b", forth))
            self.assertIs(paper_holds(system, value), right, (str(forth), str(back)))


class HoldsTest(unittest.TestCase):
    def test_changed_papers(self):
        random = Random(225)
        told = []
        for system in small_systems(226, 400, most=3):
            value = paper(system)
            for _ in range(12):
                new = changed(random, system, value if value is not None else self.guess(system))
                right = is_right(system, new)
                told.append(right)
                self.assertIs(paper_holds(system, new), right)
        self.assertGreater(told.count(True), 300)
        self.assertGreater(told.count(False), 300)

    def guess(self, system):
        """Return triples that are no right paper, because a round trip grows."""
        return [(scale.name, scale.name, Passage.same(scale.top)) for scale in system.scales]

    def test_order_does_not_count(self):
        for system in small_systems(227, 40):
            value = paper(system)
            if value is not None:
                self.assertTrue(paper_holds(system, value[::-1]))

    def test_no_triple_may_be_there_twice(self):
        value = paper(CALM)
        for entry in value:
            self.assertFalse(paper_holds(CALM, (*value, entry)))
            self.assertFalse(paper_holds(CALM, (entry, *value)))

    def test_each_triple_is_needed(self):
        value = paper(CALM)
        for at in range(len(value)):
            self.assertFalse(paper_holds(CALM, value[:at] + value[at + 1:]))

    def test_triples_without_a_way(self):
        system = System([Scale("a", 3), Scale("b", 4), Scale("c", 5)], [Link("l", "a", "b", Passage(3, 4, [(0, 0, True)]))])
        value = paper(system)
        for source, target, p, right in (
            ("b", "c", Passage(4, 5, [(0, 0, False)]), True), ("c", "b", Passage(5, 4, [(0, 2, False)]), True),
            ("c", "a", Passage(5, 3, [(0, 0, False)]), False), ("a", "c", Passage(3, 5, [(0, 5, False)]), True),
            ("b", "c", Passage(4, 4, [(0, 0, False)]), False), ("b", "c", Passage(3, 5, [(0, 0, False)]), False),
            ("b", "a", Passage(4, 3, [(0, 0, False)]), True), ("b", "a", Passage(4, 3, [(0, 1, False)]), False),
        ):
            self.assertIs(paper_holds(system, (*value, (source, target, p))), right, (source, target))

    def test_changes_no_scale(self):
        system = System([Scale("a", 9)])
        self.assertTrue(paper_holds(system, (("a", "a", Passage.same(9)),)))
        for p in (Passage(9, 9, [(0, 0, False), (1, 0, True)]), Passage(9, 9, [(0, 1, True), (9, 9, False)]),
                  Passage.same(8), Passage.same(10), Passage(9, 10, [(0, 0, True)])):
            self.assertFalse(paper_holds(system, (("a", "a", p),)))

    def test_any_value(self):
        for value in (*NO_NUMBERS, 0, 3, paper(CALM)[0], {}, ("a", "b", "c"), ((),), (((),),), (None,), ((None,) * 3,)):
            self.assertIs(paper_holds(CALM, value), False)
            self.assertIs(paper_holds(HOUSE, value), False)

    def test_lists_are_no_papers(self):
        value = paper(CALM)
        self.assertFalse(paper_holds(CALM, list(value)))
        for at, entry in enumerate(value):
            self.assertFalse(paper_holds(CALM, (*value[:at], list(entry), *value[at + 1:])))

    def test_wrong_parts(self):
        value = paper(CALM)
        for at, (source, target, p) in enumerate(value):
            for wrong in (*NO_NAMES, "up", "down", "low", "abc"):
                for entry in ((wrong, target, p), (source, wrong, p), (wrong, wrong, p)):
                    self.assertIs(paper_holds(CALM, (*value[:at], entry, *value[at + 1:])), False)
                    self.assertIs(paper_holds(CALM, (*value, entry)), False)
            for wrong in [part for part in (*NO_NUMBERS, 0, 3, str(p)) if not isinstance(part, Passage)]:
                self.assertIs(paper_holds(CALM, (*value[:at], (source, target, wrong), *value[at + 1:])), False)
                self.assertIs(paper_holds(CALM, (*value, wrong)), False)
            for entry in ((source, target), (source, target, p, p), (p, source, target), ()):
                self.assertIs(paper_holds(CALM, (*value[:at], entry, *value[at + 1:])), False)


if __name__ == "__main__":
    unittest.main()
