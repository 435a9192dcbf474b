"""[9]: the texts of passages."""

import unittest

from scaleways.errors import InvalidPassage, InvalidText
from scaleways.passages import Passage
from tests.support import FAR, all_passages, far_passages, results

NO_NUMERALS = (
    "", "00", "01", "-1", "+1", "1.0", "1e3", "0x1", "1_0", "a", "1a", "\n", "1\n", "\n1", "0=0",
    "9" * 14, "1" + "0" * 13, "(1)", "1,", "1+", "\u0663", "\u00b2", "1\u0663",
)

NO_PIECES = (
    "", "0", "=", "0=", "=0", "0=0++", "+", "0+", "0+=0", "+0=0", "0==0", "0=0=0", "0=0+0", "00=0", "0=00",
    "0=01+", "01=1", "-1=0", "0=-1", "a=0", "0=a", "0:0", "0=0\n", "\n0=0", "0=0,", "0=+", "9" * 14 + "=0",
    "0=" + "9" * 14, "0=" + "9" * 14 + "+",
)


class WritingTest(unittest.TestCase):
    def test_form(self):
        self.assertEqual(str(Passage(9, 9, [(0, 0, False), (1, 0, True)])), "9 9 0=0 2=1+")
        self.assertEqual(str(Passage(9, 2, [(0, 0, False), (4, 1, False), (7, 2, False)])), "9 2 0=0 4=1 7=2")
        self.assertEqual(str(Passage.same(FAR)), "1000000000000 1000000000000 0=0+")
        self.assertEqual(str(Passage(0, 3, [(0, 2, True)])), "0 3 0=2")

    def test_is_read_again(self):
        for p in all_passages(4, 4):
            self.assertEqual(Passage.read(str(p)), p)
        for top, target, pieces in far_passages(11, 60):
            p = Passage(top, target, pieces)
            self.assertEqual(Passage.read(str(p)), p)


class ReadingTest(unittest.TestCase):
    def assert_wrong_text(self, at, text):
        with self.assertRaises(InvalidText, msg=text) as caught:
            Passage.read(text)
        self.assertEqual(caught.exception.at, at, text)

    def assert_wrong_passage(self, text):
        with self.assertRaises(InvalidPassage, msg=text) as caught:
            Passage.read(text)
        self.assertEqual(caught.exception.word, "pieces", text)

    def test_any_pieces(self):
        self.assertEqual(results(Passage.read("4 9 0=0 1=0 2=2+ 3=3 4=3+")), [0, 0, 2, 3, 3])
        self.assertEqual(str(Passage.read("4 9 0=0 1=0 2=1+ 3=2+ 4=3+")), "4 9 0=0 2=1+")
        self.assertEqual(str(Passage.read("0 0 0=0+")), "0 0 0=0")

    def test_thirteen_digits(self):
        self.assertEqual(Passage.read("1000000000000 1000000000000 0=0+"), Passage.same(FAR))
        p = Passage.read("9999999999999 9999999999999 0=0 9999999999999=9999999999999")
        self.assertEqual((p.top, p.target), (10 ** 13 - 1, 10 ** 13 - 1))

    def test_long_text(self):
        text = "99 198 " + " ".join(f"{x}={2 * x}" for x in range(100))
        self.assertEqual(results(Passage.read(text)), [2 * x for x in range(100)])

    def test_wrong_numbers(self):
        for word in NO_NUMERALS:
            self.assert_wrong_text(0, f"{word} 9 0=0")
            self.assert_wrong_text(1, f"9 {word} 0=0")
            self.assert_wrong_text(0, f"{word} {word} {word}")
            self.assert_wrong_text(1, f"9 {word}")
            self.assert_wrong_text(0, word)

    def test_wrong_pieces(self):
        for word in NO_PIECES:
            self.assert_wrong_text(2, f"9 9 {word}")
            self.assert_wrong_text(2, f"9 9 {word} 1=1")
            self.assert_wrong_text(3, f"9 9 0=0 {word}")
            self.assert_wrong_text(3, f"9 9 0=0 {word} {word}")
            self.assert_wrong_text(4, f"9 9 0=0 3=3+ {word} 5=x")

    def test_too_few_words(self):
        self.assert_wrong_text(0, "")
        self.assert_wrong_text(1, "9")
        self.assert_wrong_text(2, "9 9")
        self.assert_wrong_text(0, "x 9")
        self.assert_wrong_text(1, "9 x")

    def test_single_spaces(self):
        self.assert_wrong_text(0, " 9 9 0=0")
        self.assert_wrong_text(1, "9  9 0=0")
        self.assert_wrong_text(2, "9 9  0=0")
        self.assert_wrong_text(3, "9 9 0=0 ")
        self.assert_wrong_text(1, "9 ")
        self.assert_wrong_text(2, "9 9 ")
        self.assert_wrong_text(0, "9\n9 0=0")
        self.assert_wrong_text(2, "9 9 0=0\n")
        self.assert_wrong_text(2, "9 9 0=0\n1=1")

    def test_every_printable_character(self):
        for code in [10, *range(32, 127)]:
            sign = chr(code)
            if not sign.isdigit():
                self.assert_wrong_text(1 if sign == " " else 0, f"9{sign} 9 0=0")
                if sign not in " +":
                    self.assert_wrong_text(2, f"9 9 0=0{sign}")
                if sign != "=":
                    self.assert_wrong_text(2, f"9 9 0{sign}0")

    def test_wrong_text_comes_before_wrong_passage(self):
        self.assert_wrong_text(3, "9 2 0=3 x")
        self.assert_wrong_text(4, "9 9 1=0 1=0 01=0")

    def test_wrong_passage(self):
        for text in ("9 2 0=3", "9 9 1=0", "9 9 0=0 0=0", "9 9 0=0 3=1 2=2", "9 9 0=0 10=1", "9 9 0=3 1=2",
                     "9 9 0=0+ 5=3", "9 9 0=1+", "0 0 0=1", "9 9 0=0 5=6+"):
            self.assert_wrong_passage(text)


if __name__ == "__main__":
    unittest.main()
