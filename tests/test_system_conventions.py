"""[2], [3]: arguments and kinds of values, for systems, resting, chains and papers."""

import unittest

from scaleways.chains import falling, growing, highest, lowest, reach
from scaleways.errors import InvalidLink, InvalidScale, InvalidSystem, InvalidWay, NoName, NoValue
from scaleways.papers import paper, paper_holds
from scaleways.passages import Passage
from scaleways.resting import fixed, rest, rounds, slowest
from scaleways.systems import Link, Scale, System
from tests.support import FAR, HOUSE, HOUSE_TEXT, SIZE, SOME, UP, far_systems, small_systems

CALM = System.read(HOUSE_TEXT.replace("0=3 1=6 2=9", "0=0 1=4 2=7"))

LESS = Passage(9, 9, [(0, 0, False), (1, 0, True)])


def answers(system):
    """Return what the package says about a system."""
    first = system.scales[0].name
    last = system.scales[-1].name
    small = system.scale(first).top <= 60
    high = highest(system, first, first)
    return (
        str(system), system.scales, system.links, growing(system), falling(system), paper(system),
        high, lowest(system, first, first), highest(system, first, last), lowest(system, last, first),
        reach(system, first, 0, last, 0) if small else None, paper_holds(system, paper(system)), system + System(system.scales),
        rest(high), slowest(high), fixed(high), rounds(high, 0), system == system,
    )


class ArgumentsTest(unittest.TestCase):
    def test_by_name(self):
        self.assertEqual(Scale(words=["low", "mid", "high"], top=2, name="size"), SIZE)
        self.assertEqual(Link(passage=SOME, target="size", source="fine", name="up"), UP)
        self.assertEqual(System(links=HOUSE.links, scales=HOUSE.scales), HOUSE)
        self.assertEqual(System.read(text=HOUSE_TEXT), HOUSE)
        self.assertEqual((HOUSE.scale(name="size"), HOUSE.link(name="up")), (SIZE, UP))
        self.assertEqual(HOUSE.without(name="down").links, (UP,))
        self.assertEqual(HOUSE.way(names=["up"]), SOME)

    def test_functions_by_name(self):
        self.assertEqual((rest(p=LESS), slowest(p=LESS), fixed(p=LESS)), (rest(LESS), (9, 9), ((0, 0),)))
        self.assertEqual(rounds(x=4, p=LESS), 4)
        self.assertEqual(highest(target="size", source="fine", system=CALM), SOME)
        self.assertEqual(lowest(target="fine", source="size", system=HOUSE), HOUSE.way(["down"]))
        self.assertEqual((growing(system=CALM), falling(system=HOUSE)), (None, None))
        self.assertEqual(reach(y=3, target="fine", x=1, source="fine", system=HOUSE), ("up", "down"))
        self.assertTrue(paper_holds(value=paper(system=CALM), system=CALM))

    def test_errors_keep_their_arguments(self):
        value = ["up"]
        for ask, error, name in (
            (lambda: HOUSE.scale(value), NoName, "name"), (lambda: HOUSE.link(value), NoName, "name"),
            (lambda: HOUSE.without(value), NoName, "name"), (lambda: highest(HOUSE, value, "fine"), NoName, "name"),
            (lambda: lowest(HOUSE, "fine", value), NoName, "name"), (lambda: rounds(LESS, value), NoValue, "value"),
            (lambda: reach(HOUSE, "fine", 0, "size", value), NoValue, "value"),
        ):
            with self.assertRaises(error) as caught:
                ask()
            self.assertIs(getattr(caught.exception, name), value)

    def test_arguments_are_not_changed(self):
        words, scales, links, names = ["low", "mid", "high"], list(HOUSE.scales), list(HOUSE.links), ["up", "down"]
        Scale("size", 2, words)
        System(scales, links).way(names)
        self.assertEqual(words, ["low", "mid", "high"])
        self.assertEqual((scales, links, names), (list(HOUSE.scales), list(HOUSE.links), ["up", "down"]))


class ObjectsTest(unittest.TestCase):
    def test_not_iterable(self):
        for thing in (SIZE, UP, HOUSE, System([SIZE]), InvalidScale("name"), InvalidLink("name"), InvalidSystem("links"), InvalidWay(0)):
            for use in (iter, list, tuple, sorted, set, lambda thing: 0 in thing, lambda thing: [*thing]):
                with self.assertRaises(TypeError):
                    use(thing)

    def test_sequences_are_tuples(self):
        value = paper(CALM)
        for sequence in (
            SIZE.words, Scale("a", 3).words, HOUSE.scales, HOUSE.links, System([SIZE]).links, HOUSE.without("up").links,
            (HOUSE + System([Scale("a", 0)])).scales, System.read(HOUSE_TEXT).scales, System.read(HOUSE_TEXT).scale("size").words,
            fixed(LESS), fixed(LESS)[0], slowest(LESS), growing(HOUSE), growing(HOUSE)[0], value, value[0],
            reach(HOUSE, "fine", 1, "fine", 3), reach(HOUSE, "fine", 1, "fine", 1), rest(LESS).pieces,
        ):
            self.assertIs(sequence.__class__, tuple)

    def test_kinds_of_numbers(self):
        for number in (rounds(LESS, 4), *slowest(LESS), *fixed(LESS)[0], growing(HOUSE)[1], System.read(HOUSE_TEXT).scales[0].top):
            self.assertIs(number.__class__, int)
        for value in (paper_holds(CALM, paper(CALM)), paper_holds(CALM, None), HOUSE == CALM, HOUSE == HOUSE, SIZE == SIZE):
            self.assertIs(value.__class__, bool)

    def test_same_calls_again(self):
        systems = small_systems(21, 20) + far_systems(22, 5)
        first = [answers(system) for system in systems]
        self.assertEqual([answers(system) for system in systems], first)
        self.assertEqual([answers(System.read(str(system))) for system in systems], first)

    def test_objects_do_not_change(self):
        before = (str(HOUSE), HOUSE.scales, HOUSE.links, str(CALM))
        answers(HOUSE)
        answers(HOUSE + System([Scale("a", 3)]))
        with self.assertRaises(InvalidSystem):
            HOUSE + CALM
        with self.assertRaises(InvalidWay):
            HOUSE.way(["up", "up"])
        self.assertEqual((str(HOUSE), HOUSE.scales, HOUSE.links, str(CALM)), before)

    def test_limits_raise_nothing(self):
        names = "abcdefgh"
        scales = [Scale(name, FAR * 7) for name in names]
        links = [Link("l" + name, name, names[at - 1], Passage.same(FAR * 7)) for at, name in enumerate(names)]
        links += [Link("m" + name, name, names[at - 1], Passage(FAR * 7, FAR * 7, [(0, 1, False), (1, 1, True)]))
                  for at, name in enumerate(names)]
        system = System(scales, links)
        self.assertEqual(str(highest(system, "a", "e")), f"{FAR * 7} {FAR * 7} 0=1 2=2+")
        self.assertEqual((len(growing(system)[0]), growing(system)[1], falling(system)), (8, 0, None))
        self.assertEqual(system.way(["la", "lh", "lg", "lf", "le", "ld", "lc", "lb"] * 4), Passage.same(FAR * 7))
        self.assertEqual(len(paper(System(scales, links[:8]))), 64)
        self.assertEqual(len(reach(System(scales, links[:8]), "a", 99, "b", 99)), 7)


if __name__ == "__main__":
    unittest.main()
