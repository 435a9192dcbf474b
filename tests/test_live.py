"""[25], [26]: live values, compared with plain lists of stops and with trying all values."""

import unittest
from random import Random

from scaleways.errors import InvalidScale, NoName, NoValue, Refused, ScaleError
from scaleways.live import Live
from scaleways.passages import Passage
from scaleways.systems import Link, Scale, System
from tests.support import FAR, HOUSE, NO_NAMES, NO_NUMBERS, far_systems, first_from, random_way, small_systems

NO_ITEMS = (*NO_NAMES, "b", "fine", "up", "abc")

NO_LINKS = (*NO_NAMES, "a", "fine", "size", "low", "abc")

NO_SCALES = (*NO_NAMES, "a", "up", "down", "low", "abc")


def items_of(live):
    """Return what can be asked about the items."""
    return [(name, live[name], live.path(name), live.start(name)) for name in live.names]


def history(live):
    """Return what can be asked about a live object now and after each undo, and leave it so."""
    found = [items_of(live)]
    while live.undo():
        found.append(items_of(live))
    return found


def state(live):
    """Return all that can be asked about a live object."""
    return (live.names, len(live), live.within(history))


def house(*stops):
    """Return a live object with an item a on the scale fine, at 5, that has moved along these links."""
    live = Live(HOUSE)
    live.put("a", "fine", 5)
    live.sends("a", list(stops))
    return live


class LiveTest(unittest.TestCase):
    def raises(self, error, live, ask):
        """Return the error that a call raises, after a check that nothing has changed."""
        before = state(live)
        with self.assertRaises(error) as caught:
            ask()
        self.assertEqual(state(live), before)
        return caught.exception


class PutTest(LiveTest):
    def test_new(self):
        live = Live(HOUSE)
        self.assertIs(live.system, HOUSE)
        self.assertEqual((len(live), live.names, live.undo()), (0, (), False))
        self.assertFalse("a" in live)

    def test_items(self):
        live = Live(HOUSE)
        self.assertIsNone(live.put("b", "fine", 9))
        live.put("a", "size", 0)
        live.put("zzzz", "fine", 0)
        self.assertEqual((live.names, len(live)), (("b", "a", "zzzz"), 3))
        self.assertEqual((live["b"], live["a"], live["zzzz"]), (("fine", 9), ("size", 0), ("fine", 0)))
        self.assertEqual([name in live for name in ("a", "b", "c", "zzzz", "fine")], [True, True, False, True, False])
        self.assertEqual((live.path("a"), live.start("a")), ((), (0, 0)))

    def test_wrong_names(self):
        live = house()
        for name in (*NO_NAMES, "a"):
            for scale, value in (("fine", 3), ("none", 3), (None, None), ("size", 3)):
                self.assertEqual(self.raises(InvalidScale, live, lambda: live.put(name, scale, value)).word, "name")

    def test_wrong_scales(self):
        live = house()
        for scale in NO_SCALES:
            for value in (0, 10, None):
                self.assertIs(self.raises(NoName, live, lambda: live.put("b", scale, value)).name, scale)

    def test_wrong_values(self):
        live = house()
        for value in (*NO_NUMBERS, 10, FAR):
            self.assertIs(self.raises(NoValue, live, lambda: live.put("b", "fine", value)).value, value)
        self.assertEqual(self.raises(NoValue, live, lambda: live.put("b", "size", 3)).value, 3)

    def test_far(self):
        live = Live(System([Scale("a", FAR)]))
        live.put("a", "a", FAR)
        self.assertEqual((live["a"], live.start("a")), (("a", FAR), (FAR, FAR)))
        self.assertEqual(self.raises(NoValue, live, lambda: live.put("b", "a", FAR + 1)).value, FAR + 1)

    def test_names_as_those_of_scales_and_links(self):
        live = Live(HOUSE)
        live.put("fine", "fine", 5)
        live.put("up", "fine", 9)
        self.assertEqual((live.send("up", "up"), live.send("fine", "up"), live.names), (2, 1, ("fine", "up")))

    def test_twenty_items(self):
        live = Live(HOUSE)
        names = ["i" + letter for letter in "abcdefghijklmnopqrstuvwxyz"]
        for at, name in enumerate(names):
            live.put(name, "fine", at % 10)
        for name in names[::-1]:
            live.send(name, "up")
        self.assertEqual((live.names, len(live)), (tuple(names), 26))
        self.assertEqual([live[name][1] for name in names[:10]], [0, 0, 0, 0, 1, 1, 1, 2, 2, 2])


class SendTest(LiveTest):
    def test_send(self):
        live = house()
        self.assertEqual((live.send("a", "up"), live["a"], live.path("a")), (1, ("size", 1), ("up",)))
        self.assertEqual((live.send("a", "down"), live["a"], live.path("a")), (6, ("fine", 6), ("up", "down")))

    def test_items_move_alone(self):
        live = house()
        live.put("b", "fine", 9)
        live.send("a", "up")
        self.assertEqual((live["a"], live["b"], live.path("b")), (("size", 1), ("fine", 9), ()))
        live.sends("b", ["up", "down"])
        self.assertEqual((live["a"], live["b"], live.path("a")), (("size", 1), ("fine", 9), ("up",)))

    def test_wrong_items(self):
        live = house("up")
        for name in NO_ITEMS:
            for link in ("up", "down", "none", None):
                self.assertIs(self.raises(NoName, live, lambda: live.send(name, link)).name, name)

    def test_wrong_links(self):
        for live in (house(), house("up"), house("up", "down")):
            for link in NO_LINKS:
                self.assertIs(self.raises(NoName, live, lambda: live.send("a", link)).name, link)

    def test_refused(self):
        live = house()
        for many in range(5):
            wrong, right = ("down", "up") if many % 2 == 0 else ("up", "down")
            self.assertEqual(self.raises(Refused, live, lambda: live.send("a", wrong)).at, many)
            live.send("a", right)
        live.undo()
        self.assertEqual(self.raises(Refused, live, lambda: live.send("a", "down")).at, 4)

    def test_refused_counts_the_moves_of_this_item(self):
        live = house("up", "down")
        live.put("b", "size", 0)
        self.assertEqual(self.raises(Refused, live, lambda: live.send("b", "up")).at, 0)
        live.sends("b", [])
        self.assertEqual(self.raises(Refused, live, lambda: live.send("b", "up")).at, 0)
        self.assertEqual(self.raises(Refused, live, lambda: live.send("a", "down")).at, 2)


class SendsTest(LiveTest):
    def test_sends(self):
        for kind in (list, tuple):
            live = house()
            self.assertEqual(live.sends("a", kind(["up", "down", "up"])), (1, 6, 1))
            self.assertEqual((live["a"], live.path("a")), (("size", 1), ("up", "down", "up")))
            self.assertEqual(live.sends("a", kind(["down"])), (6,))
            self.assertEqual((live["a"], live.path("a")), (("fine", 6), ("up", "down", "up", "down")))

    def test_along_none(self):
        live = house("up")
        for links in ([], ()):
            found = live.sends("a", links)
            self.assertEqual((found, found.__class__), ((), tuple))
            self.assertEqual((live["a"], live.path("a"), live.start("a")), (("size", 1), ("up",), (4, 6)))

    def test_wrong_items(self):
        live = house("up")
        for name in NO_ITEMS:
            for links in ([], ["down"], ["none"], (None,), ["up"]):
                self.assertIs(self.raises(NoName, live, lambda: live.sends(name, links)).name, name)

    def test_wrong_links(self):
        live = house("up")
        for before in ([], ["down"], ["down", "up", "down"]):
            for link in NO_LINKS:
                error = self.raises(Refused, live, lambda: live.sends("a", [*before, link, "up", None]))
                self.assertEqual((error.at, error.__cause__.__class__), (len(before), NoName))
                self.assertIs(error.__cause__.name, link)

    def test_refused(self):
        for moves in ([], ["up", "down"], ["up", "down"] * 3):
            live = house(*moves)
            for before in ([], ["up"], ["up", "down"], ["up", "down", "up"]):
                wrong = "down" if len(before) % 2 == 0 else "up"
                error = self.raises(Refused, live, lambda: live.sends("a", (*before, wrong, "none")))
                self.assertEqual((error.at, error.__cause__.__class__), (len(before), Refused))
                self.assertEqual(error.__cause__.at, len(moves) + len(before))

    def test_later_changes(self):
        links = ["up", "down"]
        live = house()
        live.sends("a", links)
        links.clear()
        self.assertEqual(live.path("a"), ("up", "down"))


class AskTest(LiveTest):
    def test_no_items(self):
        for live in (Live(HOUSE), house(), house("up")):
            for name in (*NO_ITEMS, [live], "aa"):
                self.assertIs(self.raises(NoName, live, lambda: live[name]).name, name)
                self.assertIs(self.raises(NoName, live, lambda: live.path(name)).name, name)
                self.assertIs(self.raises(NoName, live, lambda: live.start(name)).name, name)
                self.assertIs(name in live, False)
        self.assertIs("a" in live, True)

    def test_indices_are_no_numbers(self):
        live = house()
        for at in (0, -1, 1):
            self.assertEqual(self.raises(NoName, live, lambda: live[at]).name, at)

    def test_live_itself_is_no_name(self):
        live = house()
        self.assertIs(live in live, False)
        self.assertIs(self.raises(NoName, live, lambda: live[live]).name, live)
        self.assertIs(self.raises(NoName, live, lambda: live.send("a", live)).name, live)


class StartTest(LiveTest):
    def walked(self, system, names, x):
        """Return the value to which links lead, one by one."""
        for name in names:
            x = system.link(name).passage(x)
        return x

    def test_house(self):
        self.assertEqual(house("up").start("a"), (4, 6))
        self.assertEqual(house("up", "down").start("a"), (4, 6))
        self.assertEqual(house().start("a"), (5, 5))
        live = Live(HOUSE)
        live.put("b", "size", 2)
        live.sends("b", ["down", "up"])
        self.assertEqual((live.start("b"), live["b"]), ((2, 2), ("size", 2)))

    def test_small_systems(self):
        random = Random(261)
        wide = 0
        for system in small_systems(262, 300, most=9):
            for scale in system.scales:
                x = random.randint(0, scale.top)
                live = Live(system)
                live.put("a", scale.name, x)
                names = random_way(random, system, scale.name, 6)
                live.sends("a", names)
                self.assertEqual(live["a"][1], self.walked(system, names, x))
                values = [z for z in range(scale.top + 1) if self.walked(system, names, z) == live["a"][1]]
                if not names:
                    values = [x]
                self.assertEqual(live.start("a"), (values[0], values[-1]))
                wide += len(values) > 1
        self.assertGreater(wide, 50)

    def test_far_systems(self):
        random = Random(263)
        for system in far_systems(264, 80):
            scale = random.choice(system.scales)
            x = random.randint(0, scale.top)
            live = Live(system)
            live.put("a", scale.name, x)
            names = random_way(random, system, scale.name, 20)
            live.sends("a", names)
            y = live["a"][1]
            low = first_from(lambda z: self.walked(system, names, z) >= y, scale.top)
            high = first_from(lambda z: self.walked(system, names, z) > y, scale.top) - 1
            self.assertEqual(live.start("a"), (low, high) if names else (x, x))


class UndoTest(LiveTest):
    def test_each_kind(self):
        live = Live(HOUSE)
        live.put("a", "fine", 5)
        live.send("a", "up")
        live.sends("a", ["down", "up", "down"])
        live.sends("a", [])
        live.put("b", "size", 0)
        live.send("b", "down")
        told = []
        while live.undo() is True:
            told.append([(name, live[name], live.path(name)) for name in live.names])
        self.assertIs(live.undo(), False)
        moved = ("a", ("fine", 6), ("up", "down", "up", "down"))
        self.assertEqual(told, [
            [moved, ("b", ("size", 0), ())], [moved], [moved], [("a", ("size", 1), ("up",))], [("a", ("fine", 5), ())], [],
        ])
        self.assertEqual((live.undo(), len(live), live.names), (False, 0, ()))

    def test_along_no_links(self):
        live = house("up")
        for _ in range(3):
            live.sends("a", [])
        self.assertEqual([live.undo() for _ in range(3)], [True] * 3)
        self.assertEqual((live["a"], live.path("a")), (("size", 1), ("up",)))
        self.assertEqual((live.undo(), live["a"]), (True, ("fine", 5)))

    def test_names_are_free_again(self):
        live = house("up")
        live.put("b", "size", 1)
        live.undo()
        self.assertFalse("b" in live)
        live.put("b", "fine", 2)
        self.assertEqual((live["b"], live.names), (("fine", 2), ("a", "b")))
        for _ in range(3):
            live.undo()
        live.put("c", "fine", 1)
        live.put("a", "size", 2)
        self.assertEqual((live.names, live["a"], live.path("a"), live.start("a")), (("c", "a"), ("size", 2), (), (2, 2)))

    def test_errors_are_not_taken_back(self):
        live = house()
        for ask in (lambda: live.put("a", "fine", 3), lambda: live.send("a", "down"), lambda: live.sends("a", ["up", "up"])):
            with self.assertRaises(ScaleError):
                ask()
        self.assertEqual([live.undo() for _ in range(3)], [True, True, False])


class WithinTest(LiveTest):
    def test_result(self):
        live = house()
        before = state(live)
        self.assertEqual(live.within(lambda same: same.sends("a", ["up", "down"])), (1, 6))
        self.assertIs(live.within(lambda same: same), live)
        self.assertIsNone(live.within(lambda same: None))
        self.assertEqual(live.within(items_of), items_of(live))
        self.assertEqual(state(live), before)

    def test_sees_its_own_changes(self):
        live = house()

        def work(same):
            same.put("b", "size", 2)
            same.send("b", "down")
            same.send("a", "up")
            return items_of(same)

        self.assertEqual(live.within(work), [("a", ("size", 1), ("up",), (4, 6)), ("b", ("fine", 9), ("down",), (2, 2))])
        self.assertEqual(items_of(live), [("a", ("fine", 5), (), (5, 5))])

    def test_errors_go_on(self):
        live = house("up", "down")
        error = KeyError("some")

        def work(same):
            same.undo()
            same.put("b", "size", 2)
            same.send("a", "up")
            raise error

        self.assertIs(self.raises(KeyError, live, lambda: live.within(work)), error)
        self.assertEqual(self.raises(Refused, live, lambda: live.within(lambda same: same.sends("a", ["up", "up"]))).at, 1)
        with self.assertRaises(KeyboardInterrupt):
            live.within(self.interrupted)
        self.assertEqual((live["a"], live.path("a")), (("fine", 6), ("up", "down")))

    def interrupted(self, live):
        live.send("a", "up")
        raise KeyboardInterrupt()

    def test_what_could_be_taken_back(self):
        live = house("up", "down")
        live.send("a", "up")
        before = state(live)

        def work(same):
            while same.undo():
                pass
            same.put("a", "size", 0)
            same.put("b", "size", 0)
            return same.names

        self.assertEqual(live.within(work), ("a", "b"))
        self.assertEqual(state(live), before)
        self.assertEqual([live.undo() for _ in range(4)], [True, True, True, False])
        self.assertEqual(len(live), 0)

    def test_nothing_of_it_is_taken_back_later(self):
        live = house()
        live.within(lambda same: same.sends("a", ["up", "down", "up"]))
        live.send("a", "up")
        self.assertEqual((live.undo(), live["a"], live.undo(), live.undo(), live.undo()), (True, ("fine", 5), True, True, False))

    def test_within_itself(self):
        live = house()
        before = state(live)

        def outer(same):
            same.send("a", "up")
            middle = state(same)
            inner = same.within(lambda again: (again.undo(), again.undo(), again.undo(), again.names))
            self.assertEqual(state(same), middle)
            with self.assertRaises(NoName):
                same.within(lambda again: again.undo() and again.send("a", "none"))
            self.assertEqual(state(same), middle)
            return inner

        self.assertEqual(live.within(outer), (True, True, True, ()))
        self.assertEqual(state(live), before)

    def test_bound_methods_and_classes(self):
        live = house()
        self.assertEqual(live.within(len), 1)
        found = []
        live.within(found.append)
        self.assertIs(found[0], live)


class ModelTest(LiveTest):
    """Random calls, compared with a list of all states so far."""

    def change(self, random, system, live, items):
        """Make one random change, and return the items after it, by their names, or None if it is refused."""
        name = random.choice("abcd")
        new = {key: list(stops) for key, stops in items.items()}
        kind = random.choice(["put", "send", "sends"])
        if kind == "put":
            scale = random.choice(system.scales)
            if name in items:
                self.raises(InvalidScale, live, lambda: live.put(name, scale.name, 0))
                return None
            value = random.randint(0, scale.top)
            live.put(name, scale.name, value)
            new[name] = [(scale.name, value, None)]
            return new
        if name not in items:
            self.raises(NoName, live, lambda: live.sends(name, []))
            return None
        names = random_way(random, system, items[name][-1][0], 3)
        for link in names:
            _, value, _ = new[name][-1]
            new[name].append((system.link(link).target, system.link(link).passage(value), link))
        values = tuple(value for _, value, _ in new[name][len(items[name]):])
        if kind == "send" and len(names) == 1:
            self.assertEqual((live.send(name, names[0]),), values)
        else:
            self.assertEqual(live.sends(name, names), values)
        return new

    def check(self, live, items):
        """Check what a live object tells of its items, but for their starts."""
        self.assertEqual((live.names, len(live)), (tuple(items), len(items)))
        for name, stops in items.items():
            self.assertEqual(live[name], stops[-1][:2])
            self.assertEqual(live.path(name), tuple(link for _, _, link in stops[1:]))

    def test_random_calls(self):
        random = Random(265)
        for system in small_systems(266, 40, most=9) + far_systems(267, 10):
            live = Live(system)
            states = [{}]
            for _ in range(60):
                if random.random() < 0.25:
                    self.assertIs(live.undo(), len(states) > 1)
                    states = states[:-1] or [{}]
                else:
                    items = self.change(random, system, live, states[-1])
                    if items is not None:
                        states.append(items)
                self.check(live, states[-1])
            while len(states) > 1:
                self.assertIs(live.undo(), True)
                states.pop()
                self.check(live, states[-1])
            self.assertIs(live.undo(), False)

    def test_many_moves(self):
        same = Passage(FAR, FAR, [(0, 0, False), (1, 0, True)])
        live = Live(System([Scale("a", FAR)], [Link("l", "a", "a", same)]))
        live.put("a", "a", FAR)
        for _ in range(10000):
            live.send("a", "l")
        self.assertEqual((live["a"], live.start("a")), (("a", FAR - 10000), (FAR, FAR)))
        live.sends("a", ["l"] * 10000)
        self.assertEqual((live["a"], len(live.path("a"))), (("a", FAR - 20000), 20000))
        self.assertEqual((live.undo(), live.undo(), live["a"]), (True, True, ("a", FAR - 9999)))


if __name__ == "__main__":
    unittest.main()
