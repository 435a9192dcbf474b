"""The examples of the document, chapters 1, 4 and 5, and those of README.md."""

import doctest
import unittest
from pathlib import Path

from scaleways.partners import at_least, at_most, fits, lost, lowered, raised
from scaleways.passages import Passage


class ExamplesTest(unittest.TestCase):
    def test_grades(self):
        grade = Passage.table([0, 0, 0, 0, 1, 1, 1, 2, 2, 2], 2)
        back = at_most(grade)
        self.assertEqual(
            (str(grade), str(back), fits(grade, back), lost(grade, back)),
            ("9 2 0=0 4=1 7=2", "2 9 0=3 1=6 2=9", True, (0, 3)),
        )

    def test_less(self):
        less = Passage(9, 9, [(0, 0, False), (1, 0, True)])
        self.assertEqual(
            (str(less), less(5), less.sources(0), str(less >> less), less <= Passage.same(9)),
            ("9 9 0=0 2=1+", 4, (0, 1), "9 9 0=0 3=1+", True),
        )

    def test_partners_of_grades(self):
        grade = Passage.table([0, 0, 0, 0, 1, 1, 1, 2, 2, 2], 2)
        self.assertEqual(str(at_least(grade)), "2 9 0=0 1=4 2=7")
        self.assertEqual(lowered(grade), grade)
        self.assertEqual(raised(grade), grade)
        self.assertIsNone(at_most(Passage.table([1, 1], 1)))
        self.assertIsNone(at_least(Passage.table([0, 0], 1)))

    def test_readme(self):
        readme = Path(__file__).parent.parent / "README.md"
        failed, tried = doctest.testfile(str(readme), module_relative=False, encoding="utf-8")
        self.assertEqual((failed, tried > 0), (0, True))


if __name__ == "__main__":
    unittest.main()
