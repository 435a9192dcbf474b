"""[1], [2], [3]: conventions for the whole program, and modules that pass on what others return."""

import unittest
from random import Random

from scaleways import errors
from scaleways.chains import falling, growing, highest, lowest, reach
from scaleways.desk import Desk
from scaleways.live import Live
from scaleways.origins import origins
from scaleways.papers import paper, paper_holds
from scaleways.partners import at_least, at_most, fits, lost, lowered, misfit, raised
from scaleways.passages import Passage
from scaleways.repairs import needless, strikes
from scaleways.resting import fixed, rest, rounds, slowest
from scaleways.systems import Link, Scale, System
from tests.support import FAR, HOUSE, HOUSE_TEXT, SIZE, SOME, far_systems, random_way, rid_of, small_systems
from tests.test_live import items_of, state

BACK = Passage(2, 9, [(0, 3, False), (1, 6, False), (2, 9, False)])

LESS = Passage(9, 9, [(0, 0, False), (1, 0, True)])

CALM = System.read(HOUSE_TEXT.replace("0=3 1=6 2=9", "0=0 1=4 2=7"))

TEXT = "system " + HOUSE_TEXT.replace("\n", " ; ")


def moved():
    """Return a live object with two items, of which one has moved."""
    live = Live(HOUSE)
    live.put("a", "fine", 5)
    live.put("b", "size", 2)
    live.sends("a", ["up", "down"])
    return live


def asked():
    """Return a desk with a system and an item."""
    desk = Desk()
    desk.say(TEXT)
    desk.say("put a fine 5")
    return desk


def calls():
    """Return all that can be called: pairs of a function and its arguments by their names.

    Where a call may change an object, the object is a new one each time.
    """
    pairs = {"p": SOME, "q": BACK}
    ways = {"system": HOUSE, "source": "fine", "target": "size"}
    return [
        (Passage, {"top": 9, "target": 2, "pieces": [(0, 0, False), (4, 1, False), (7, 2, False)]}),
        (Passage.table, {"values": [0, 0, 3], "target": 9}), (Passage.same, {"top": 9}), (Passage.read, {"text": "9 2 0=0 4=1"}),
        (SOME, {"x": 5}), (SOME.sources, {"y": 1}), (BACK.sources, {"y": 1}),
        (fits, pairs), (misfit, pairs), (misfit, {"p": LESS, "q": LESS}), (lost, pairs), (at_most, {"p": SOME}), (at_least, {"p": SOME}),
        (lowered, {"p": BACK}), (raised, {"p": LESS}), (rest, {"p": LESS}), (rounds, {"p": LESS, "x": 4}), (slowest, {"p": LESS}),
        (fixed, {"p": LESS}), (Scale, {"name": "size", "top": 2, "words": ["low", "mid", "high"]}), (Scale, {"name": "a", "top": 3}),
        (Link, {"name": "up", "source": "fine", "target": "size", "passage": SOME}), (System, {"scales": [SIZE]}),
        (System, {"scales": list(HOUSE.scales), "links": list(HOUSE.links)}), (System.read, {"text": HOUSE_TEXT}),
        (HOUSE.scale, {"name": "size"}), (HOUSE.link, {"name": "up"}), (HOUSE.without, {"name": "up"}), (HOUSE.way, {"names": ["up", "down"]}),
        (highest, ways), (lowest, ways), (growing, {"system": HOUSE}), (falling, {"system": HOUSE}), (growing, {"system": CALM}),
        (reach, {"system": HOUSE, "source": "fine", "x": 1, "target": "fine", "y": 3}), (paper, {"system": HOUSE}), (paper, {"system": CALM}),
        (paper_holds, {"system": CALM, "value": paper(CALM)}), (paper_holds, {"system": CALM, "value": [SOME]}),
        (strikes, {"system": HOUSE}), (strikes, {"system": CALM}), (needless, {"system": HOUSE}), (needless, {"system": HOUSE + CALM_AGAIN}),
        (origins, {"system": HOUSE, "source": "fine", "results": [(["up"], 1)]}), (origins, {"system": HOUSE, "source": "size", "results": []}),
        (Live, {"system": HOUSE}), (moved().put, {"name": "c", "scale": "size", "value": 1}), (moved().send, {"name": "a", "link": "up"}),
        (moved().sends, {"name": "a", "links": ["up", "down"]}), (moved().path, {"name": "a"}), (moved().start, {"name": "a"}),
        (moved().undo, {}), (moved().within, {"work": items_of}), (Desk, {}), (asked().say, {"command": "send a up"}),
        (asked().say, {"command": "strikes"}),
    ]


CALM_AGAIN = System.read(str(CALM).replace("up", "too").replace("down", "fall"))


def shown(value):
    """Return something that can be compared and tells all about a value."""
    if isinstance(value, Live):
        return (str(value.system), state(value))
    if isinstance(value, Desk):
        return ("a desk", None if value.live is None else shown(value.live))
    return value


def answers(make):
    """Return what all calls return, each made as the parameter says."""
    return [shown(make(ask, arguments)) for ask, arguments in calls()]


def sequences(value):
    """Return all sequences in a value and in the attributes of objects in it."""
    if isinstance(value, (list, tuple)):
        return [value] + [found for part in value for found in sequences(part)]
    if isinstance(value, Passage):
        return sequences(value.pieces)
    if isinstance(value, Scale):
        return sequences(value.words)
    if isinstance(value, Link):
        return sequences(value.passage)
    if isinstance(value, System):
        return sequences(value.scales) + sequences(value.links)
    if isinstance(value, Live):
        return sequences(value.system) + sequences(value.names) + [found for name in value.names for found in sequences(value[name])]
    return []


class ConventionsTest(unittest.TestCase):
    def test_by_position_and_by_name(self):
        by_position = answers(lambda ask, arguments: ask(*arguments.values()))
        self.assertEqual(answers(lambda ask, arguments: ask(**arguments)), by_position)
        self.assertEqual(answers(lambda ask, arguments: ask(**dict(list(arguments.items())[::-1]))), by_position)

    def test_equal_calls_have_equal_results(self):
        first = answers(lambda ask, arguments: ask(**arguments))
        for system in small_systems(281, 10):
            strikes(system)
            Live(system)
        self.assertEqual(answers(lambda ask, arguments: ask(**arguments)), first)

    def test_lists_and_tuples_are_accepted(self):
        def as_tuples(ask, arguments):
            return ask(**{name: tuple(value) if isinstance(value, list) else value for name, value in arguments.items()})

        self.assertEqual(answers(as_tuples), answers(lambda ask, arguments: ask(**arguments)))

    def test_sequences_are_tuples(self):
        for ask, arguments in calls():
            if getattr(ask, "__name__", "") != "within":
                for sequence in sequences(ask(**arguments)):
                    self.assertIs(sequence.__class__, tuple, (ask, arguments))
        live = moved()
        for sequence in (live.names, live["a"], live.path("a"), live.path("b"), live.start("a"), live.sends("a", []), Live(HOUSE).names,
                         strikes(CALM), strikes(CALM)[0], needless(HOUSE), origins(HOUSE, "fine", []), live.system.links):
            self.assertIs(sequence.__class__, tuple)

    def test_kinds(self):
        live = moved()
        for number in (live.send("a", "up"), *live.sends("a", ["down"]), live["a"][1], *live.start("a"), len(live), *origins(HOUSE, "fine", [])):
            self.assertIs(number.__class__, int)
        for value in ("a" in live, "z" in live, None in live, live.undo(), Live(HOUSE).undo()):
            self.assertIs(value.__class__, bool)
        for value in (live["a"][0], *live.names, *live.path("a"), *needless(HOUSE + CALM_AGAIN), *strikes(HOUSE)[0], asked().say("undo")):
            self.assertIs(value.__class__, str)

    def test_nothing_is_iterable(self):
        made = [SOME, SIZE, HOUSE.link("up"), HOUSE, moved(), Live(HOUSE), asked(), Desk()]
        made += [errors.ScaleError(), errors.InvalidCommand(), errors.Mismatch()]
        for name in ("InvalidPassage", "InvalidScale", "InvalidLink", "InvalidSystem", "InvalidWay", "InvalidText", "Refused", "NoName", "NoValue"):
            made.append(getattr(errors, name)("x"))
        for thing in made:
            for use in (iter, list, tuple, sorted, set, dict, lambda thing: [*thing], lambda thing: max(thing), lambda thing: list(zip(thing))):
                with self.assertRaises(TypeError, msg=repr(thing)):
                    use(thing)
            with self.assertRaises(TypeError):
                for _ in thing:
                    pass
            with self.assertRaises(TypeError):
                one, two = thing

    def test_methods_without_a_result(self):
        self.assertIsNone(moved().put("c", "fine", 1))
        self.assertIsNone(moved().within(lambda live: None))

    def test_errors_keep_their_arguments(self):
        value = [["a"]]
        live = moved()
        for ask, error, name in (
            (lambda: live.put("c", value, 0), errors.NoName, "name"), (lambda: live.put("c", "fine", value), errors.NoValue, "value"),
            (lambda: live.send(value, "up"), errors.NoName, "name"), (lambda: live.send("a", value), errors.NoName, "name"),
            (lambda: live.sends(value, []), errors.NoName, "name"), (lambda: live[value], errors.NoName, "name"),
            (lambda: live.path(value), errors.NoName, "name"), (lambda: live.start(value), errors.NoName, "name"),
            (lambda: origins(HOUSE, value, []), errors.NoName, "name"),
            (lambda: origins(HOUSE, "fine", [(["up"], value)]), errors.NoValue, "value"),
        ):
            with self.assertRaises(error) as caught:
                ask()
            self.assertIs(getattr(caught.exception, name), value)
        value.append("b")
        self.assertEqual(getattr(caught.exception, name), [["a"], "b"])

    def test_arguments_are_not_changed(self):
        links, results = ["up", "down"], [(["up"], 1), (("up", "down"), 6)]
        live = moved()
        live.sends("a", links)
        origins(HOUSE, "fine", results)
        self.assertEqual((links, results), (["up", "down"], [(["up"], 1), (("up", "down"), 6)]))

    def test_systems_do_not_change(self):
        before = (str(HOUSE), HOUSE.scales, HOUSE.links)
        live = moved()
        live.within(lambda same: same.send("a", "up"))
        strikes(HOUSE)
        needless(HOUSE)
        origins(HOUSE, "fine", [(["up"], 1)])
        self.assertEqual((str(HOUSE), HOUSE.scales, HOUSE.links), before)
        self.assertIs(live.system, HOUSE)

    def test_equal_to_nothing_of_another_class(self):
        live, desk = moved(), asked()
        for thing in (SOME, SIZE, HOUSE.link("up"), HOUSE):
            for other in (live, desk, None, 3, str(thing), (thing,), [thing]):
                self.assertEqual((thing == other, other == thing, thing != other), (False, False, True))


class SideBySideTest(unittest.TestCase):
    def test_live_objects(self):
        system = HOUSE + CALM_AGAIN
        first, second = Live(system), Live(system)
        first.put("a", "fine", 5)
        self.assertEqual((second.names, second.undo()), ((), False))
        second.put("a", "size", 1)
        first.sends("a", ["up", "fall"])
        self.assertEqual((first["a"], second["a"]), (("fine", 4), ("size", 1)))
        self.assertEqual(first.within(lambda live: (live.undo(), second.send("a", "down"))), (True, 6))
        self.assertEqual((first["a"], second["a"], second.undo(), second["a"]), (("fine", 4), ("fine", 6), True, ("size", 1)))

    def test_systems_in_place(self):
        live = Live(HOUSE)
        system = HOUSE
        system += CALM_AGAIN
        with self.assertRaises(errors.NoName):
            live.put("a", "fine", 1)
            live.send("a", "too")
        self.assertEqual((len(live.system.links), len(system.links)), (2, 4))

    def test_desks_and_live_objects(self):
        desk = asked()
        live = Live(desk.live.system)
        live.put("a", "size", 0)
        self.assertEqual((desk.say("show a"), live["a"]), ("fine 5", ("size", 0)))


class PassedOnTest(unittest.TestCase):
    """What one module returns may be passed to any other one."""

    def test_trips(self):
        for system in small_systems(282, 150) + far_systems(283, 20):
            for trip, sign in ((growing(system), 1), (falling(system), -1)):
                if trip is not None:
                    names, x = trip
                    live = Live(system)
                    live.put("a", system.link(names[0]).source, x)
                    values = live.sends("a", names)
                    self.assertGreater((values[-1] - x) * sign, 0)
                    self.assertEqual((live.path("a"), live["a"]), (names, (system.link(names[0]).source, values[-1])))
                    low, high = live.start("a")
                    self.assertTrue(low <= x <= high)

    def test_ways(self):
        for system in small_systems(284, 60):
            source, target = system.scales[0], system.scales[-1]
            for y in range(target.top + 1):
                way = reach(system, source.name, 0, target.name, y)
                if way is not None:
                    live = Live(system)
                    live.put("a", source.name, 0)
                    live.sends("a", way)
                    self.assertEqual(live["a"], (target.name, y))
                    if way:
                        self.assertEqual(origins(system, source.name, [(way, y)]), live.start("a"))
                        self.assertEqual(live.start("a"), system.way(live.path("a")).sources(y))

    def test_starts_are_origins(self):
        random = Random(285)
        for system in far_systems(286, 60):
            live = Live(system)
            name = random.choice(system.scales).name
            live.put("a", name, random.randint(0, system.scale(name).top))
            live.sends("a", random_way(random, system, name, 12))
            scale, value = live["a"]
            if live.path("a"):
                self.assertEqual(origins(system, name, ((live.path("a"), value),)), live.start("a"))

    def test_strikes_and_papers(self):
        for system in small_systems(287, 100) + far_systems(288, 10):
            for gone in strikes(system):
                left = rid_of(system, gone)
                self.assertTrue(paper_holds(left, paper(left)))
                self.assertEqual(strikes(left), ((),))
                for name in gone:
                    self.assertIsNotNone(growing(rid_of(system, [other for other in gone if other != name])))

    def test_needless_links(self):
        for system in small_systems(289, 60):
            for name in needless(system):
                left = system.without(name)
                for source in system.scales:
                    for target in system.scales:
                        self.assertEqual(highest(left, source.name, target.name), highest(system, source.name, target.name))
                        self.assertEqual(lowest(left, source.name, target.name), lowest(system, source.name, target.name))

    def closed(self, system):
        """Return the system whose links are the highest and the lowest passages of another one."""
        names = [scale.name for scale in system.scales]
        found = []
        for at, source in enumerate(names):
            for by, target in enumerate(names):
                for word, ask in (("h", highest), ("l", lowest)):
                    passage = ask(system, source, target)
                    if passage is not None:
                        found.append(Link(word + "abcde"[at] + "abcde"[by], source, target, passage))
        return System(system.scales, found)

    def test_links_of_highest_passages(self):
        for system in small_systems(290, 40, scales=2) + far_systems(291, 5, scales=2):
            again = self.closed(system)
            for source in system.scales:
                for target in system.scales:
                    pair = (source.name, target.name)
                    self.assertEqual(highest(again, *pair), highest(system, *pair))
                    self.assertEqual(lowest(again, *pair), lowest(system, *pair))
            self.assertEqual(strikes(again) == ((),), strikes(system) == ((),))
            self.assertEqual(System.read(str(again)), again)
            self.assertEqual(needless(again + System.read(str(again).replace("link h", "link x").replace("link l", "link y"))),
                             tuple(sorted([link.name for link in again.links] + [
                                 {"h": "x", "l": "y"}[link.name[0]] + link.name[1:] for link in again.links])))

    def test_partners_as_links(self):
        for p in (SOME, lowered(LESS), lowered(BACK)):
            if p.top == p.target:
                continue
            system = System([Scale("a", p.top), Scale("b", p.target)], [Link("p", "a", "b", p), Link("q", "b", "a", at_most(p))])
            self.assertTrue(fits(p, system.link("q").passage))
            self.assertEqual(highest(system, "a", "a"), rest(p >> at_most(p)))
            live = Live(system)
            live.put("x", "a", lost(p, at_most(p))[0])
            self.assertEqual(abs(live.sends("x", ["p", "q"])[-1] - lost(p, at_most(p))[0]), lost(p, at_most(p))[1])

    def test_desks(self):
        for system in small_systems(292, 40) + far_systems(293, 5):
            desk = Desk()
            desk.say("system " + str(system).replace("\n", " ; "))
            self.assertEqual(strikes(desk.live.system), strikes(system))
            self.assertEqual(str(Live(desk.live.system).system), str(system))


class LimitsTest(unittest.TestCase):
    def test_beyond_the_limits(self):
        names = "abcdefg"
        top = FAR * 9
        less = Passage(top, top, [(0, 0, False), (1, 0, True)])
        system = System([Scale(name, top) for name in names], [Link("l" + name, name, names[at - 1], less) for at, name in enumerate(names)])
        live = Live(system)
        for at in range(30):
            live.put("i" + "abcdefghijklmnopqrstuvwxyzabcd"[at] + str("x" * (at // 26)), "a", top - at)
        way = ["la", "lg", "lf", "le", "ld", "lc", "lb"] * 6
        self.assertEqual((len(live), live.sends("ia", way)[-1], live.start("ia")), (30, top - 42, (top, top)))
        self.assertEqual(origins(system, "a", [(way, 0)] * 9), (0, 42))
        self.assertEqual((strikes(system), needless(system)), (((),), ()))


if __name__ == "__main__":
    unittest.main()
