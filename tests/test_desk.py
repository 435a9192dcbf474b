"""[27], [28]: desks, their commands and results."""

import unittest
from random import Random

from scaleways.chains import growing
from scaleways.desk import Desk
from scaleways.errors import InvalidCommand, InvalidScale, InvalidSystem, InvalidText, NoName, NoValue, Refused
from scaleways.live import Live
from scaleways.repairs import strikes
from scaleways.systems import Scale, System
from tests.support import FAR, HOUSE, HOUSE_TEXT, NO_NUMBERS, far_systems, random_way, small_systems
from tests.test_live import state

COMMAND = "system " + HOUSE_TEXT.replace("\n", " ; ")

CALM = COMMAND.replace("0=3 1=6 2=9", "0=0 1=4 2=7")

# What has none of the forms, whatever the system is.
NO_COMMANDS = (
    "", " ", "x", "system", "System scale a 3", "systems scale a 3", "put", "put a", "put a fine", "put a fine 5 6",
    "put a fine 5 low", "puts a fine 5", "Put a fine 5", "PUT a fine 5", "send", "send a", "send a up down", "sends a up", "sends a",
    "show", "show a b", "Show a", "start", "start a b", "starts a", "grows a", "grow", "strikes a", "strike", "undo a", "undo undo", "Undo",
    "live", "within a", "path a", "names", "a fine 5", "fine 5", "up", "a", "grows;", ";", "; grows", "grows ; undo", "grow s",
)

# Forms with what does not belong between words.
NO_WORDS = (
    " grows", "grows ", "undo ", " undo", "strikes ", "grows\n", "\ngrows", "\n", "put  a fine 5", "put a  fine 5", "put a fine  5",
    "put a fine 5 ", " put a fine 5", "put a fine 5\n", "put a\nfine 5", "put\na fine 5", "put a fine ", "put a  5", "send  up", "send a ",
    "send a  up", "send a\nup", "show ", "show  a", "start ", "start  a", "show a\n", "show \n", "system ", "system  ", "system scale a 3 ",
    "system  scale a 3", "system scale  a 3", "system scale a 3 ;  scale b 3", "system scale a 3  ; scale b 3", "system scale a 3 ; ",
    "system scale a 3\nscale b 3", "system\nscale a 3", "system scale a 3\n", " system scale a 3",
)


def desk_with(*commands):
    """Return a desk at which these commands were executed."""
    desk = Desk()
    for command in commands:
        desk.say(command)
    return desk


class DeskTest(unittest.TestCase):
    def raises(self, error, desk, command):
        """Return the error that a command raises, after a check that nothing has changed."""
        live = desk.live
        before = None if live is None else state(live)
        with self.assertRaises(error, msg=repr(command)) as caught:
            desk.say(command)
        self.assertIs(desk.live, live)
        self.assertEqual(None if live is None else state(live), before)
        return caught.exception


class SystemTest(DeskTest):
    def test_new(self):
        desk = Desk()
        self.assertIsNone(desk.live)
        self.assertEqual(desk.say(COMMAND), "2")
        self.assertIs(desk.live.__class__, Live)
        self.assertEqual((desk.live.system, desk.live.names), (HOUSE, ()))

    def test_number_of_links(self):
        for system in small_systems(271, 60) + far_systems(272, 5):
            desk = Desk()
            self.assertEqual(desk.say("system " + str(system).replace("\n", " ; ")), str(len(system.links)))
            self.assertEqual(str(desk.live.system), str(system))

    def test_one_line(self):
        desk = desk_with("system scale a 3")
        self.assertEqual((desk.live.system, desk.say("grows")), (System([Scale("a", 3)]), "never"))

    def test_second_one(self):
        desk = desk_with(COMMAND, "put a fine 5", "send a up")
        first = desk.live
        before = state(first)
        self.assertEqual(desk.say("system scale a 3 low mid high top"), "0")
        self.assertIsNot(desk.live, first)
        self.assertEqual((len(desk.live), desk.say("undo")), (0, "nothing"))
        self.assertEqual((desk.say("put a a top"), desk.say("show a")), ("put", "a top"))
        self.assertEqual(state(first), before)
        self.assertEqual((desk.say(COMMAND), desk.say("put a fine 5")), ("2", "put"))

    def test_errors_of_read(self):
        for desk in (Desk(), desk_with(COMMAND, "put a fine 5")):
            for text, at in (("x", 0), ("scale a 3 ; x", 1), ("scale a 3 ; link l a a 3 3", 1), ("scale a 03", 0), ("scale a 3;scale b 3", 0),
                             ("; scale a 3", 0), ("scale a 3 ; ; scale b 3", 1), ("scale a 3 ;", 0), (";", 0),
                             ("scale a 3 ; link l a a 3 3 0=0 ; scale b 3", 2)):
                self.assertEqual(self.raises(InvalidText, desk, "system " + text).at, at, text)
            self.assertEqual(self.raises(InvalidScale, desk, "system scale a 3 b").word, "words")
            self.assertEqual(self.raises(InvalidSystem, desk, "system scale a 3 ; scale a 3").word, "scales")
            self.assertEqual(self.raises(InvalidSystem, desk, "system scale a 3 ; link l a b 3 3 0=0").word, "links")


class CommandsTest(DeskTest):
    def test_with_words_and_digits(self):
        desk = desk_with(COMMAND)
        for command, result in (
            ("put a fine 5", "put"), ("show a", "fine 5"), ("start a", "5 5"), ("send a up", "mid"), ("show a", "size mid"),
            ("start a", "4 6"), ("send a down", "6"), ("show a", "fine 6"), ("start a", "4 6"),
            ("put b size high", "put"), ("show b", "size high"), ("start b", "high high"), ("send b down", "9"), ("show b", "fine 9"),
            ("start b", "high high"), ("send b up", "high"), ("put c size low", "put"), ("start c", "low low"), ("put d fine 0", "put"),
            ("send d up", "low"), ("start d", "0 3"),
        ):
            self.assertEqual(desk.say(command), result, command)
        self.assertEqual(desk.live.names, ("a", "b", "c", "d"))
        self.assertEqual(desk.live["c"], ("size", 0))

    def test_start_has_the_words_of_its_scale(self):
        text = "scale a 4 p q r s t ; scale b 1 no yes ; link l a b 4 1 0=0 3=1"
        desk = desk_with("system " + text, "put x a s", "send x l", "put y a q", "send y l")
        self.assertEqual((desk.say("show x"), desk.say("start x"), desk.say("start y")), ("b yes", "s t", "p r"))

    def test_a_single_value(self):
        desk = desk_with("system scale a 0 only ; scale b 0 ; link l a b 0 0 0=0 ; link m b a 0 0 0=0", "put x a only", "put y b 0")
        self.assertEqual((desk.say("show x"), desk.say("send x l"), desk.say("start x"), desk.say("send x m")), ("a only", "0", "only only", "only"))
        self.assertEqual((desk.say("start y"), desk.say("send y m"), desk.say("start y")), ("0 0", "only", "0 0"))
        self.raises(InvalidCommand, desk, "put z a 0")
        self.raises(InvalidCommand, desk, "put z b only")

    def test_great_values(self):
        desk = desk_with(f"system scale a {FAR} ; link l a a {FAR} {FAR} 0=0 1=0+")
        self.assertEqual((desk.say(f"put x a {FAR}"), desk.say("send x l"), desk.say("start x")), ("put", str(FAR - 1), f"{FAR} {FAR}"))

    def test_thirteen_digits(self):
        desk = desk_with("system scale a 9999999999999")
        self.assertEqual((desk.say("put x a 9999999999999"), desk.say("show x")), ("put", "a 9999999999999"))
        self.raises(InvalidCommand, desk, "put y a 10000000000000")

    def test_grows(self):
        for command, result in ((COMMAND, "up down"), (CALM, "never"), ("system scale a 0", "never"),
                                ("system scale a 3 ; link l a a 3 3 0=1", "l")):
            self.assertEqual(desk_with(command).say("grows"), result)
        for system in small_systems(273, 60) + far_systems(274, 10):
            trip = growing(system)
            words = desk_with("system " + str(system).replace("\n", " ; ")).say("grows")
            if trip is None:
                self.assertEqual(words, "never")
                continue
            names = words.split(" ")
            p = system.way(names)
            self.assertEqual((len(names), system.link(names[0]).source), (len(trip[0]), system.link(names[-1]).target))
            self.assertGreater(p | p.same(p.top), p.same(p.top))

    def test_strikes(self):
        self.assertEqual(desk_with(COMMAND).say("strikes"), "down or up")
        self.assertEqual(desk_with(CALM).say("strikes"), "nothing")
        self.assertEqual(desk_with("system scale a 0").say("strikes"), "nothing")
        text = "scale a 3 ; scale b 3 ; link z a b 3 3 0=1+ 3=3 ; link b b a 3 3 0=0+ ; link or b a 3 3 0=0+"
        self.assertEqual(desk_with("system " + text).say("strikes"), "z or b or")
        for system in small_systems(275, 60):
            found = strikes(system)
            words = desk_with("system " + str(system).replace("\n", " ; ")).say("strikes")
            self.assertEqual(words, "nothing" if found == ((),) else " or ".join(" ".join(names) for names in found))

    def test_undo(self):
        desk = desk_with(COMMAND)
        self.assertEqual(desk.say("undo"), "nothing")
        desk = desk_with(COMMAND, "put a fine 5", "send a up", "show a", "start a", "grows", "strikes")
        self.assertEqual((desk.say("undo"), desk.say("show a")), ("undone", "fine 5"))
        self.assertEqual((desk.say("undo"), len(desk.live)), ("undone", 0))
        self.assertEqual((desk.say("undo"), desk.say("undo")), ("nothing", "nothing"))

    def test_the_live_object_is_shared(self):
        desk = desk_with(COMMAND, "put a fine 5")
        self.assertEqual(desk.live.sends("a", ["up", "down"]), (1, 6))
        self.assertEqual((desk.say("show a"), desk.say("undo"), desk.say("show a")), ("fine 6", "undone", "fine 5"))
        self.assertEqual(desk.live.within(lambda live: (live.put("b", "size", 0), desk.say("show b"))), (None, "size low"))
        self.assertIs(self.raises(NoName, desk, "show b").name.__class__, str)

    def test_as_a_live_object(self):
        random = Random(276)
        for system in small_systems(277, 60, most=9) + far_systems(278, 10):
            desk = desk_with("system " + str(system).replace("\n", " ; "))
            live = Live(system)
            for name in "abc":
                scale = random.choice(system.scales)
                value = random.randint(0, scale.top)
                live.put(name, scale.name, value)
                self.assertEqual(desk.say(f"put {name} {scale.name} {value}"), "put")
                for link in random_way(random, system, scale.name, 5):
                    self.assertEqual(desk.say(f"send {name} {link}"), str(live.send(name, link)))
                    low, high = live.start(name)
                    self.assertEqual(desk.say(f"start {name}"), f"{low} {high}")
                    self.assertEqual(desk.say(f"show {name}"), f"{live[name][0]} {live[name][1]}")
            self.assertEqual(state(desk.live), state(live))


class InvalidTest(DeskTest):
    def desks(self):
        """Return desks without a live object, with an empty one, and with items."""
        return (Desk(), desk_with(COMMAND), desk_with(COMMAND, "put a fine 5", "send a up"))

    def test_any_value(self):
        for desk in self.desks():
            for value in (*[value for value in NO_NUMBERS if not isinstance(value, str)], 0, 3, ["grows"], ("grows",), ["put", "a", "fine", "5"],
                          desk, b"grows"):
                self.raises(InvalidCommand, desk, value)

    def test_no_forms(self):
        for desk in self.desks():
            for command in (*NO_COMMANDS, *NO_WORDS):
                self.raises(InvalidCommand, desk, command)

    def test_no_live_object(self):
        for command in ("put a fine 5", "put a none x", "put A fine 5", "send a up", "send a none", "show a", "start a", "grows",
                        "strikes", "undo"):
            self.raises(InvalidCommand, Desk(), command)

    def test_no_live_object_after_an_error(self):
        desk = Desk()
        self.raises(InvalidText, desk, "system x")
        self.raises(InvalidCommand, desk, "undo")

    def test_an_empty_live_object_is_one(self):
        desk = desk_with("system scale a 0")
        self.assertEqual((desk.say("undo"), desk.say("grows"), desk.say("strikes")), ("nothing", "never", "nothing"))

    def test_put(self):
        desk = desk_with(COMMAND, "put a fine 5")
        for scale in ("none", "Fine", "fines", "up", "a", "low", "5", ";", "fine,"):
            for name in ("b", "a", "B", "12345"):
                for value in ("5", "99", "x", "mid", "-1"):
                    self.assertEqual(self.raises(NoName, desk, f"put {name} {scale} {value}").name, scale)
        for name in ("b", "a", "B", "12345"):
            for value in ("x", "mid", "-1", "+5", "05", "00", "5.", "5+", "1" * 14, "0" * 2, "1e1", "five"):
                self.raises(InvalidCommand, desk, f"put {name} fine {value}")
            for value in ("0", "1", "2", "3", "99", "Mid", "mi", "lower", "fine", "-1"):
                self.raises(InvalidCommand, desk, f"put {name} size {value}")
        for name in ("a", "B", "12345", "abcde", "a1", ";", "a."):
            for rest in ("fine 5", "size mid", "fine 99", f"fine {10 ** 13 - 1}"):
                self.assertEqual(self.raises(InvalidScale, desk, f"put {name} {rest}").word, "name")
        for value in (10, 99, FAR, 10 ** 13 - 1):
            error = self.raises(NoValue, desk, f"put b fine {value}")
            self.assertEqual((error.value, error.value.__class__), (value, int))

    def test_other_errors(self):
        desk = desk_with(COMMAND, "put a fine 5", "send a up")
        for name in ("b", "A", "fine", "up", "aa", "5", ";"):
            for command in (f"show {name}", f"start {name}", f"send {name} up", f"send {name} none"):
                self.assertEqual(self.raises(NoName, desk, command).name, name)
        for link in ("none", "Up", "a", "fine", "size", "5", ";"):
            self.assertEqual(self.raises(NoName, desk, f"send a {link}").name, link)
        self.assertEqual(self.raises(Refused, desk, "send a up").at, 1)
        desk.say("send a down")
        self.assertEqual(self.raises(Refused, desk, "send a down").at, 2)


class SideBySideTest(DeskTest):
    def test_two_desks(self):
        first, second = desk_with(COMMAND), desk_with(COMMAND)
        first.say("put a fine 5")
        self.assertEqual((second.say("undo"), second.say("put a size low"), first.say("show a")), ("nothing", "put", "fine 5"))
        second.say("system scale b 3")
        self.assertEqual((first.say("send a up"), second.say("strikes")), ("mid", "nothing"))


if __name__ == "__main__":
    unittest.main()
