"""[1], [2], [3]: arguments and kinds of values, for passages and partners."""

import unittest

from scaleways.errors import InvalidPassage, Mismatch, NoName, NoValue
from scaleways.partners import at_least, at_most, fits, lost, lowered, misfit, raised
from scaleways.passages import Passage
from tests.support import FAR, SOME, all_passages, results

BACK = Passage(2, 9, [(0, 3, False), (1, 6, False), (2, 9, False)])

ZERO = Passage(2, 9, [(0, 0, False)])


class ArgumentsTest(unittest.TestCase):
    def test_by_name(self):
        p = Passage(pieces=[(0, 0, False), (4, 1, False), (7, 2, False)], target=2, top=9)
        self.assertEqual(p, SOME)
        self.assertEqual(Passage.table(target=2, values=results(SOME)), SOME)
        self.assertEqual(Passage.same(top=3), Passage.same(3))
        self.assertEqual(Passage.read(text="9 2 0=0 4=1 7=2"), SOME)
        self.assertEqual((p(x=4), p.sources(y=1)), (1, (4, 6)))
        self.assertTrue(fits(q=BACK, p=SOME))
        self.assertIsNone(misfit(q=BACK, p=SOME))
        self.assertEqual((at_most(p=SOME), at_least(p=BACK)), (BACK, SOME))
        self.assertEqual(lost(q=BACK, p=SOME), (0, 3))
        self.assertEqual((lowered(p=SOME), raised(p=SOME)), (SOME, SOME))

    def test_wrong_ones_by_name(self):
        for word, arguments in (("top", {"top": True, "target": None, "pieces": 3}),
                                ("target", {"top": 3, "target": None, "pieces": 3}),
                                ("pieces", {"top": 3, "target": 3, "pieces": "000"})):
            with self.assertRaises(InvalidPassage) as caught:
                Passage(**arguments)
            self.assertEqual(caught.exception.word, word)
        for ask in (lambda value: SOME(x=value), lambda value: SOME.sources(y=value)):
            value = [10]
            with self.assertRaises(NoValue) as caught:
                ask(value)
            self.assertIs(caught.exception.value, value)

    def test_later_changes_have_no_effect(self):
        pieces = [(0, 0, False), (4, 1, False), (7, 2, False)]
        p = Passage(9, 2, pieces)
        pieces[1] = (4, 2, False)
        pieces.append((8, 2, False))
        values = [0, 1]
        q = Passage.table(values, 5)
        values[1] = 4
        values.append(5)
        self.assertEqual((str(p), str(q)), ("9 2 0=0 4=1 7=2", "1 5 0=0+"))

    def test_arguments_are_not_changed(self):
        pieces = [(0, 0, False), (1, 0, False), (2, 0, True)]
        values = [0, 0, 1]
        Passage(9, 9, pieces)
        Passage.table(values, 5)
        self.assertEqual(pieces, [(0, 0, False), (1, 0, False), (2, 0, True)])
        self.assertEqual(values, [0, 0, 1])

    def test_errors_keep_later_changes(self):
        value = [3]
        with self.assertRaises(NoValue) as caught:
            SOME(value)
        value.append(4)
        self.assertEqual(caught.exception.value, [3, 4])

    def test_lists_and_tuples(self):
        self.assertEqual(Passage(9, 9, ((0, 0, True),)), Passage(9, 9, [(0, 0, True)]))
        self.assertEqual(Passage.table((0, 3), 9), Passage.table([0, 3], 9))


class ObjectsTest(unittest.TestCase):
    def test_not_iterable(self):
        for thing in (SOME, Passage.same(0), InvalidPassage("top"), Mismatch(), NoName("a"), NoValue(3)):
            for use in (iter, list, tuple, sorted, set, lambda thing: 0 in thing, lambda thing: [*thing]):
                with self.assertRaises(TypeError):
                    use(thing)

    def test_returned_sequences_are_tuples(self):
        for sequence in (SOME.pieces, *SOME.pieces, SOME.sources(1), misfit(SOME, ZERO), lost(SOME, BACK)):
            self.assertIs(sequence.__class__, tuple)

    def test_same_call_again(self):
        for p in all_passages(2, 2):
            first = self.answers(p)
            self.answers(SOME)
            self.assertEqual(self.answers(p), first)

    def answers(self, p):
        """Return what the package says about a passage."""
        back = Passage(p.target, p.top, [(0, 0, False)])
        return (
            str(p), results(p), len(p), p.pieces, at_most(p), at_least(p), lowered(p), raised(p),
            misfit(p, back), fits(p, back), lost(p, back), p >> back, p | p, p & p, p == p, p <= p,
        )

    def test_objects_do_not_change(self):
        before = (SOME.top, SOME.target, SOME.pieces)
        self.answers(SOME)
        with self.assertRaises(NoValue):
            SOME(10)
        with self.assertRaises(Mismatch):
            SOME >> SOME
        self.assertEqual((SOME.top, SOME.target, SOME.pieces), before)

    def test_limits_raise_nothing(self):
        values = list(range(100))
        self.assertEqual(len(Passage.table(values, 99)), 1)
        top = FAR * FAR
        p = Passage(top, top, [(0, 0, True), (FAR, FAR, False)])
        self.assertEqual((p(top), p.sources(FAR), at_most(p)(FAR)), (FAR, (FAR, top), top))
        q = Passage(120, 120, [(at, at, at % 2 == 0) for at in range(0, 120, 3)])
        self.assertTrue(fits(q, at_most(q)))


if __name__ == "__main__":
    unittest.main()
