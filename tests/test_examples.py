"""The examples of the document, and those of README.md."""

import doctest
import unittest
from pathlib import Path

from scaleways.chains import falling, growing, highest, lowest, reach
from scaleways.desk import Desk
from scaleways.live import Live
from scaleways.origins import origins
from scaleways.papers import paper, paper_holds
from scaleways.partners import at_least, at_most, fits, lost, lowered, raised
from scaleways.passages import Passage
from scaleways.repairs import needless, strikes
from scaleways.resting import fixed, rest, rounds, slowest
from scaleways.systems import System

TEXT = (
    "scale fine 9\nscale size 2 low mid high\n"
    "link up fine size 9 2 0=0 4=1 7=2\nlink down size fine 2 9 0=3 1=6 2=9"
)


class ExamplesTest(unittest.TestCase):
    def test_grades(self):
        grade = Passage.table([0, 0, 0, 0, 1, 1, 1, 2, 2, 2], 2)
        back = at_most(grade)
        self.assertEqual(
            (str(grade), str(back), fits(grade, back), lost(grade, back)),
            ("9 2 0=0 4=1 7=2", "2 9 0=3 1=6 2=9", True, (0, 3)),
        )

    def test_less(self):
        less = Passage(9, 9, [(0, 0, False), (1, 0, True)])
        self.assertEqual(
            (str(less), less(5), less.sources(0), str(less >> less), less <= Passage.same(9)),
            ("9 9 0=0 2=1+", 4, (0, 1), "9 9 0=0 3=1+", True),
        )

    def test_partners_of_grades(self):
        grade = Passage.table([0, 0, 0, 0, 1, 1, 1, 2, 2, 2], 2)
        self.assertEqual(str(at_least(grade)), "2 9 0=0 1=4 2=7")
        self.assertEqual(lowered(grade), grade)
        self.assertEqual(raised(grade), grade)
        self.assertIsNone(at_most(Passage.table([1, 1], 1)))
        self.assertIsNone(at_least(Passage.table([0, 0], 1)))

    def test_resting(self):
        less = Passage(9, 9, [(0, 0, False), (1, 0, True)])
        grade = Passage.table([0, 0, 0, 0, 1, 1, 1, 2, 2, 2], 2)
        back = at_most(grade)
        self.assertEqual(
            (str(rest(less)), rounds(less, 4), slowest(less), rest(grade >> back) == grade >> back),
            ("9 9 0=0", 4, (9, 9), True),
        )
        far = Passage(10 ** 12, 10 ** 12, [(0, 5, False), (5, 5, False), (100, 97, True)])
        self.assertEqual(
            (fixed(far), slowest(far), rounds(far, 1000)),
            (((5, 5),), (1000000000000, 333333333302), 302),
        )

    def test_house(self):
        house = System.read(TEXT)
        self.assertEqual(
            (str(house.way(["up", "down"])), house.scale("size").words),
            ("9 9 0=3 4=6 7=9", ("low", "mid", "high")),
        )
        self.assertEqual(
            (str(highest(house, "fine", "fine")), str(lowest(house, "fine", "size")), growing(house)[0], falling(house)),
            ("9 9 0=3 4=6 7=9", "9 2 0=0 4=1 7=2", ("up", "down"), None),
        )
        self.assertEqual(
            (reach(house, "fine", 1, "fine", 3), reach(house, "fine", 1, "fine", 2)),
            (("up", "down"), None),
        )

    def test_papers(self):
        house = System.read(TEXT)
        calm = System.read(TEXT.replace("0=3 1=6 2=9", "0=0 1=4 2=7"))
        self.assertEqual(
            (paper(house), paper_holds(calm, paper(calm)), paper_holds(calm, paper(calm)[1:]), growing(calm)),
            (None, True, False, None),
        )

    def test_repairs(self):
        house = System.read(TEXT)
        self.assertEqual(
            (strikes(house), needless(house), needless(house + System.read(TEXT.replace("up", "too").replace("down", "fall")))),
            ((("down",), ("up",)), (), ("down", "fall", "too", "up")),
        )

    def test_origins(self):
        house = System.read(TEXT)
        self.assertEqual(
            (origins(house, "fine", [(["up"], 1)]), origins(house, "fine", [(["up"], 1), (["up", "down"], 9)])),
            ((4, 6), None),
        )

    def test_live(self):
        live = Live(System.read(TEXT))
        live.put("a", "fine", 5)
        self.assertEqual(
            (live.sends("a", ["up", "down"]), live["a"], live.path("a"), live.start("a")),
            ((1, 6), ("fine", 6), ("up", "down"), (4, 6)),
        )

    def test_desk(self):
        desk = Desk()
        commands = ("system " + TEXT.replace("\n", " ; "), "put a fine 5", "send a up", "start a", "strikes")
        self.assertEqual([desk.say(command) for command in commands], ["2", "put", "mid", "4 6", "down or up"])

    def test_readme(self):
        readme = Path(__file__).parent.parent / "README.md"
        failed, tried = doctest.testfile(str(readme), module_relative=False, encoding="utf-8")
        self.assertEqual((failed, tried > 0), (0, True))


if __name__ == "__main__":
    unittest.main()
