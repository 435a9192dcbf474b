"""[17]: the texts of systems."""

import unittest

from scaleways.errors import InvalidScale, InvalidSystem, InvalidText
from scaleways.passages import Passage
from scaleways.systems import Link, Scale, System
from tests.support import FAR, HOUSE, HOUSE_TEXT, far_systems, small_systems

SIZE_LINE = "scale size 2 low mid high"

NO_SCALE_LINES = (
    "", " ", "scale", "scale ", "scale fine", "scale fine ", "scale fine 9 ", " scale fine 9", "scale  fine 9",
    "scale fine  9", "scale fine 9 a  b", "scale fine 09", "scale fine -1", "scale fine +9", "scale fine 9.",
    "scale fine x", "scale 9 fine", "scale Fine 9", "scale finer 9", "scale f1 9", "scale fine 10000000000000",
    "scale fine 00", "Scale fine 9", "scales fine 9", "fine 9", "9 fine", "scale fine 9 Low", "scale fine 9 lower",
    "scale fine 9 low 1", "scale fine 9 a,b", "scale fine 9 low=", "scale\tfine 9", "scale fine 9\t", "#", "scale fine 9 #",
)

NO_LINK_LINES = (
    "link", "link ", "link up", "link up fine", "link up fine size", "link up fine size ", "link up fine size 9",
    "link up fine size 9 2", "link up fine size 9 2 ", "link up fine size 9 2 0=0 ", "link up fine size  9 2 0=0",
    "link  up fine size 9 2 0=0", " link up fine size 9 2 0=0", "link up  fine size 9 2 0=0", "Link up fine size 9 2 0=0",
    "link Up fine size 9 2 0=0", "link up Fine size 9 2 0=0", "link up fine Size 9 2 0=0", "link upper fine size 9 2 0=0",
    "link up finer size 9 2 0=0", "link up fine sizes 9 2 0=0", "link 1 fine size 9 2 0=0", "link up fine 9 2 0=0",
    "link up fine size 9 2 0=3", "link up fine size 9 2 1=0", "link up fine size 9 2 0=0 4=1 4=2",
    "link up fine size 9 2 0=1 4=0", "link up fine size 9 2 0=0 10=1", "link up fine size 9 2 0=0+",
    "link up fine size 9 02 0=0", "link up fine size 9 2 0=0 4=x", "link up fine size 9 2 0", "up fine size 9 2 0=0",
    "links up fine size 9 2 0=0", "link up fine size -9 2 0=0", "link up fine size 9 2 0=0++",
)


class TextTest(unittest.TestCase):
    def wrong(self, error, text):
        with self.assertRaises(error) as caught:
            System.read(text)
        return caught.exception

    def form(self, at, text):
        self.assertEqual(self.wrong(InvalidText, text).at, at)

    def test_house(self):
        self.assertEqual(str(HOUSE), HOUSE_TEXT)
        self.assertEqual(System.read(HOUSE_TEXT), HOUSE)
        self.assertEqual(System.read(HOUSE_TEXT).scale("size").words, ("low", "mid", "high"))
        self.assertEqual(System.read(HOUSE_TEXT).link("up").passage, HOUSE.link("up").passage)

    def test_short_texts(self):
        self.assertEqual(str(System([Scale("a", 0)])), "scale a 0")
        self.assertEqual(str(System([Scale("a", 0, ["a"])])), "scale a 0 a")
        self.assertEqual(System.read("scale zzzz 9999999999999").scales, (Scale("zzzz", 9999999999999),))
        system = System.read("scale link 0\nlink link link link 0 0 0=0")
        self.assertEqual(system.links, (Link("link", "link", "link", Passage.same(0)),))
        self.assertEqual(str(system), "scale link 0\nlink link link link 0 0 0=0")
        self.assertEqual(str(System([Scale("b", 1), Scale("a", 1)])), "scale b 1\nscale a 1")

    def test_there_and_back(self):
        for system in small_systems(171, 60) + far_systems(172, 20):
            again = System.read(str(system))
            self.assertEqual((again, str(again)), (system, str(system)))
            self.assertEqual((again.scales, again.links), (system.scales, system.links))

    def test_any_pieces(self):
        system = System.read("scale a 9\nlink l a a 9 9 0=0 1=0 2=0+ 3=1 4=1 5=1")
        self.assertEqual(str(system), "scale a 9\nlink l a a 9 9 0=0 3=1")
        system = System.read(f"scale a {FAR}\nlink l a a {FAR} {FAR} 0=0+ 5=5+")
        self.assertEqual(str(system), f"scale a {FAR}\nlink l a a {FAR} {FAR} 0=0+")

    def test_lines_without_form(self):
        for line in (*NO_SCALE_LINES, *NO_LINK_LINES):
            self.form(0, line)
            self.form(0, "\n".join([line, line]))
            self.form(1, "\n".join([SIZE_LINE, line]))
            self.form(1, "\n".join([SIZE_LINE, line, SIZE_LINE]))
            self.form(4, "\n".join([HOUSE_TEXT, line]))
            self.form(2, "\n".join([SIZE_LINE, "link l size size 2 2 0=0+", line, "scale a 3"]))

    def test_empty_lines(self):
        self.form(0, "")
        self.form(0, "\n")
        self.form(0, "\n" + HOUSE_TEXT)
        self.form(4, HOUSE_TEXT + "\n")
        self.form(1, HOUSE_TEXT.replace("\n", "\n\n", 1))

    def test_scales_stand_before_links(self):
        self.form(4, HOUSE_TEXT + "\nscale a 3")
        self.form(1, "link l a a 3 3 0=0\nscale a 3")
        self.form(2, "scale a 3\nlink l a a 3 3 0=0\nscale a 3 b b b b")
        self.form(2, "scale a 3\nlink l a a 3 3 0=0\nscale b 3\nlink l a a 3 3")

    def test_form_comes_before_other_errors(self):
        self.form(2, "scale a 2 b\nscale a 1\nlink l a a 3 2")
        self.form(1, "link l a a 3 3 0=0\nlink l a a 3 3 0=4")
        self.form(2, "scale a 2 b b b\nlink l c c 3 3 0=0\n")

    def test_wrong_words(self):
        for line in ("scale a 2 b", "scale a 2 b c", "scale a 2 b c d e", "scale a 2 b c b", "scale a 0 b c",
                     "scale a 1000000000000 b"):
            self.assertEqual(self.wrong(InvalidScale, line).word, "words")
            self.assertEqual(self.wrong(InvalidScale, "\n".join(["scale a 2", line])).word, "words")
            self.assertEqual(self.wrong(InvalidScale, line + "\nlink l x y 3 3 0=0").word, "words")

    def test_wrong_scales(self):
        for text in ("scale a 2\nscale a 2", "scale a 2\nscale b 2\nscale a 3", "link l a a 2 2 0=0",
                     "scale a 2\nscale a 3\nlink l x y 2 2 0=0\nlink l x y 2 2 0=0"):
            self.assertEqual(self.wrong(InvalidSystem, text).word, "scales")

    def test_wrong_links(self):
        for text in ("scale a 2\nlink l a b 2 2 0=0", "scale a 2\nlink l b a 2 2 0=0", "scale a 2\nlink l a a 2 3 0=0",
                     "scale a 2\nlink l a a 3 2 0=0", "scale a 2\nlink l a a 2 2 0=0\nlink l a a 2 2 0=1"):
            self.assertEqual(self.wrong(InvalidSystem, text).word, "links")


if __name__ == "__main__":
    unittest.main()
