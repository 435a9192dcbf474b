"""[14], [15]: scales, links and systems."""

import unittest
from itertools import product

from scaleways.errors import InvalidLink, InvalidScale, InvalidSystem, NoName
from scaleways.passages import Passage
from scaleways.systems import Link, Scale, System
from tests.support import FAR, HOUSE, NO_NAMES, NO_NUMBERS, SIZE, SOME, UP, small_systems

DOWN = Link("down", "size", "fine", Passage.table([3, 6, 9], 9))

FINE = Scale("fine", 9)

NO_WORDS = (
    *[value for value in NO_NUMBERS if not (isinstance(value, (list, tuple)) and len(value) == 0)], "abc", 0, 3,
    ["a"], ["a", "b"], ["a", "b", "c", "d"], ["a", "b", "a"], ("a", "a", "a"), ["a", "b", "C"], ["a", "b", ""],
    ["a", "b", "abcde"], ["a", "b", ["c"]], ["a", "b", None], ["a", "b", 3], ("a", "b", ("c",)), [0, 1, 2], [SOME] * 3,
    {"a": 1, "b": 2, "c": 3},
)

NO_PASSAGES = (*[value for value in NO_NUMBERS if not isinstance(value, Passage)], 0, 3, "9 2 0=0", [SOME], (SOME,))


class ScaleTest(unittest.TestCase):
    def wrong(self, word, *arguments):
        with self.assertRaises(InvalidScale) as caught:
            Scale(*arguments)
        self.assertEqual(caught.exception.word, word)

    def test_attributes(self):
        scale = Scale("size", 2, ["low", "mid", "high"])
        self.assertEqual((scale.name, scale.top, scale.words), ("size", 2, ("low", "mid", "high")))
        self.assertIs(scale.words.__class__, tuple)
        for empty in ([], ()):
            self.assertEqual(Scale("z", FAR, empty).words, ())
        self.assertEqual((Scale("z", 0).name, Scale("z", 0).top, Scale("z", 0).words), ("z", 0, ()))
        self.assertEqual(Scale("zzzz", 0, ("a",)).words, ("a",))

    def test_later_changes(self):
        words = ["low", "mid", "high"]
        scale = Scale("size", 2, words)
        words[0] = "less"
        words.append("more")
        self.assertEqual(scale.words, ("low", "mid", "high"))

    def test_wrong_names(self):
        for name in NO_NAMES:
            self.wrong("name", name, 2)
            self.wrong("name", name, -1, 3)

    def test_wrong_tops(self):
        for top in NO_NUMBERS:
            self.wrong("top", "a", top)
            self.wrong("top", "a", top, 3)

    def test_wrong_words(self):
        for words in NO_WORDS:
            self.wrong("words", "a", 2, words)
        self.wrong("words", "a", 0, ["a", "b"])
        self.wrong("words", "a", FAR, ["a", "b"])
        self.wrong("words", "a", 2, "")
        self.wrong("words", "a", 2, {})

    def test_equal(self):
        rows = list(product(["a", "b"], [0, 1], [(), "words"]))
        made = []
        for name, top, words in rows:
            made.append(Scale(name, top, ["x", "y"][:top + 1] if words else ()))
        for at, first in enumerate(made):
            for by, second in enumerate(made):
                self.assertEqual((first == second, first != second), (at == by, at != by))
        self.assertEqual(Scale("a", 1, ["x", "y"]), Scale("a", 1, ("x", "y")))
        self.assertNotEqual(Scale("a", 1, ["x", "y"]), Scale("a", 1, ["y", "x"]))
        for other in (("size", 2, ("low", "mid", "high")), "size", None, UP, HOUSE, 2):
            self.assertFalse(SIZE == other)
            self.assertTrue(SIZE != other)


class LinkTest(unittest.TestCase):
    def wrong(self, word, *arguments):
        with self.assertRaises(InvalidLink) as caught:
            Link(*arguments)
        self.assertEqual(caught.exception.word, word)

    def test_attributes(self):
        link = Link("up", "fine", "size", SOME)
        self.assertEqual((link.name, link.source, link.target), ("up", "fine", "size"))
        self.assertEqual(link.passage, SOME)

    def test_wrong_names(self):
        for name in NO_NAMES:
            self.wrong("name", name, "a", "b", SOME)
            self.wrong("name", name, 1, 2, 3)
            self.wrong("source", "l", name, "b", SOME)
            self.wrong("source", "l", name, 2, 3)
            self.wrong("target", "l", "a", name, SOME)
            self.wrong("target", "l", "a", name, 3)

    def test_wrong_passages(self):
        for passage in NO_PASSAGES:
            self.wrong("passage", "l", "a", "b", passage)

    def test_equal(self):
        rows = list(product(["l", "m"], ["a", "b"], ["a", "b"], [Passage.same(2), Passage(2, 2, [(0, 0, False)])]))
        for at, first in enumerate(rows):
            for by, second in enumerate(rows):
                one, two = Link(*first), Link(*second)
                self.assertEqual((one == two, one != two), (at == by, at != by))
        self.assertEqual(Link("l", "a", "b", Passage.table([0, 1], 3)), Link("l", "a", "b", Passage(1, 3, [(0, 0, True)])))
        for other in (("up", "fine", "size", SOME), SOME, SIZE, HOUSE, None, "up"):
            self.assertFalse(UP == other)
            self.assertTrue(UP != other)


class ConstructorTest(unittest.TestCase):
    def wrong(self, word, *arguments):
        with self.assertRaises(InvalidSystem) as caught:
            System(*arguments)
        self.assertEqual(caught.exception.word, word)

    def test_attributes(self):
        for kind in (list, tuple):
            system = System(kind([FINE, SIZE]), kind([UP, DOWN]))
            self.assertEqual((system.scales, system.links), ((FINE, SIZE), (UP, DOWN)))
        for empty in ([], ()):
            self.assertEqual(System([SIZE], empty).links, ())
        self.assertEqual((System([SIZE]).scales, System([SIZE]).links), ((SIZE,), ()))

    def test_later_changes(self):
        scales = [FINE, SIZE]
        links = [UP, DOWN]
        system = System(scales, links)
        scales.pop()
        links.clear()
        self.assertEqual((system.scales, system.links), ((FINE, SIZE), (UP, DOWN)))

    def test_wrong_scales(self):
        wrong = [value for value in NO_NUMBERS if value is not SIZE] + [
            SIZE, "size", {}, [SIZE, UP], [SIZE, None], [None], [[SIZE]], ["size"], [SIZE, SIZE], (FINE, SIZE, Scale("fine", 3)),
            [("size", 2, ())], {"size": SIZE},
        ]
        for scales in wrong:
            self.wrong("scales", scales)
            self.wrong("scales", scales, 3)
            self.wrong("scales", scales, [UP])

    def test_wrong_links(self):
        wrong = [value for value in NO_NUMBERS if value not in ([], (), [UP])] + [
            UP, "up", {}, [UP, SIZE], [None, UP], [[UP]], ["up"], [UP, UP], [UP, Link("up", "size", "fine", DOWN.passage)],
            (UP, DOWN, Link("down", "fine", "fine", Passage.same(9))), {"up": UP}, 3,
        ]
        for links in wrong:
            self.wrong("links", [FINE, SIZE], links)

    def test_links_lie_between_the_scales(self):
        self.wrong("links", [FINE], [UP])
        self.wrong("links", [SIZE], [UP])
        self.wrong("links", [Scale("fine", 8), SIZE], [UP])
        self.wrong("links", [Scale("fine", 10), SIZE], [UP])
        self.wrong("links", [FINE, Scale("size", 3)], [UP])
        self.wrong("links", [FINE, Scale("size", 1)], [UP])
        self.wrong("links", [FINE, SIZE], [UP, Link("l", "size", "fine", SOME)])
        self.assertEqual(System([SIZE, FINE], [UP]).links, (UP,))
        around = Link("size", "size", "size", Passage.same(2))
        self.assertEqual(System([SIZE], [around]).links, (around,))


class SystemTest(unittest.TestCase):
    def no_name(self, ask, name):
        with self.assertRaises(NoName) as caught:
            ask(name)
        self.assertIs(caught.exception.name, name)

    def test_scale_and_link(self):
        self.assertEqual((HOUSE.scale("fine"), HOUSE.scale("size")), (FINE, SIZE))
        self.assertEqual((HOUSE.link("up"), HOUSE.link("down")), (UP, DOWN))

    def test_without(self):
        self.assertEqual(HOUSE.without("up"), System([FINE, SIZE], [DOWN]))
        self.assertEqual(HOUSE.without("down"), System([FINE, SIZE], [UP]))
        self.assertEqual(HOUSE.without("down").without("up"), System([FINE, SIZE]))
        self.assertEqual(HOUSE.links, (UP, DOWN))

    def test_no_name(self):
        for ask in (HOUSE.scale, HOUSE.link, HOUSE.without):
            for name in (*NO_NAMES, "a", "fin", "upp", "abc"):
                self.no_name(ask, name)
        for name in ("up", "down"):
            self.no_name(HOUSE.scale, name)
        for name in ("fine", "size"):
            self.no_name(HOUSE.link, name)
            self.no_name(HOUSE.without, name)
        self.no_name(HOUSE.without("up").link, "up")

    def test_sum(self):
        low = System([FINE, Scale("z", 3)], [Link("l", "z", "fine", Passage(3, 9, [(0, 2, True)]))])
        both = HOUSE + low
        self.assertEqual([scale.name for scale in both.scales], ["fine", "size", "z"])
        self.assertEqual([link.name for link in both.links], ["up", "down", "l"])
        both = low + HOUSE
        self.assertEqual([scale.name for scale in both.scales], ["fine", "z", "size"])
        self.assertEqual([link.name for link in both.links], ["l", "up", "down"])
        self.assertEqual(HOUSE + System([SIZE]), HOUSE)
        self.assertEqual(System([SIZE]) + HOUSE, System([SIZE, FINE], [UP, DOWN]))
        self.assertEqual((HOUSE.scales, HOUSE.links), ((FINE, SIZE), (UP, DOWN)))

    def test_sum_in_place(self):
        system = System([FINE])
        before = system
        system += System([SIZE, FINE], [UP])
        self.assertEqual((system, before), (System([FINE, SIZE], [UP]), System([FINE])))

    def test_sum_of_unequal_scales(self):
        for scale in (Scale("size", 3), Scale("size", 2), Scale("size", 2, ["low", "mid", "top"])):
            for other in (System([scale]), System([Scale("z", 1), scale, FINE], [])):
                for ask in (lambda: HOUSE + other, lambda: other + HOUSE):
                    with self.assertRaises(InvalidSystem) as caught:
                        ask()
                    self.assertEqual(caught.exception.word, "scales")

    def test_sum_of_equal_links(self):
        up = Link("up", "size", "size", Passage.same(2))
        for other in (HOUSE, System([SIZE], [up]), System([FINE, SIZE], [UP])):
            with self.assertRaises(InvalidSystem) as caught:
                HOUSE + other
            self.assertEqual(caught.exception.word, "links")
        with self.assertRaises(InvalidSystem) as caught:
            HOUSE + System([Scale("size", 2)], [up])
        self.assertEqual(caught.exception.word, "scales")

    def test_sum_with_something_else(self):
        for other in (3, None, "", [], (), [UP], FINE, UP, SOME, str(HOUSE)):
            with self.assertRaises(TypeError):
                HOUSE + other
            with self.assertRaises(TypeError):
                other + HOUSE
            with self.assertRaises(TypeError):
                system = HOUSE
                system += other
            with self.assertRaises(TypeError):
                other += HOUSE

    def test_equal(self):
        systems = small_systems(15, 60, most=1, scales=2, links=2)
        systems += [System.read(str(system)) for system in systems]
        for first in systems:
            for second in systems:
                alike = str(first) == str(second)
                self.assertEqual((first == second, first != second), (alike, not alike))
        self.assertNotEqual(System([FINE, SIZE]), System([SIZE, FINE]))
        self.assertNotEqual(HOUSE, System([FINE, SIZE], [DOWN, UP]))
        self.assertNotEqual(System([SIZE]), System([Scale("size", 2)]))
        for other in (str(HOUSE), SIZE, UP, None, (FINE, SIZE)):
            self.assertFalse(HOUSE == other)
            self.assertTrue(HOUSE != other)


if __name__ == "__main__":
    unittest.main()
