"""[5], [6], [7]: what a passage is, its normal form, its results and sources."""

import unittest
from itertools import combinations, product

from scaleways.errors import InvalidPassage, NoValue
from scaleways.passages import Passage
from tests.support import FAR, NO_NUMBERS, SOME, all_passages, around, bounds, far_passages, first_from
from tests.support import greedy, levels, model, model_at, nested, results, tables

FLAT = [(0, 0, False)]

NO_SEQUENCES = [value for value in NO_NUMBERS if not isinstance(value, (list, tuple))] + [0, 1, 7]


def split_at(pieces, x):
    """Return pieces of the same passage, one of which starts at x."""
    before = [piece for piece in pieces if piece[0] < x]
    behind = [piece for piece in pieces if piece[0] > x]
    rises = [piece for piece in pieces if piece[0] <= x][-1][2]
    return before + [(x, model_at(pieces, x), rises)] + behind


class Base(unittest.TestCase):
    def assert_wrong(self, word, make, *arguments):
        with self.assertRaises(InvalidPassage, msg=arguments) as caught:
            make(*arguments)
        self.assertEqual(caught.exception.word, word, arguments)

    def assert_no_value(self, ask, value):
        with self.assertRaises(NoValue, msg=repr(value)) as caught:
            ask(value)
        self.assertIs(caught.exception.value, value)


class ConstructorTest(Base):
    def test_attributes(self):
        p = Passage(9, 2, [(0, 0, False), (4, 1, False), (7, 2, False)])
        self.assertEqual((p.top, p.target), (9, 2))
        self.assertEqual(p.pieces, ((0, 0, False), (4, 1, False), (7, 2, False)))

    def test_rising_piece_counts_from_its_start(self):
        p = Passage(5, 9, ((0, 1, False), (2, 3, True)))
        self.assertEqual(results(p), [1, 1, 3, 4, 5, 6])

    def test_scale_of_one_value(self):
        p = Passage(0, 0, [(0, 0, True)])
        self.assertEqual((p.top, p.target, p.pieces), (0, 0, ((0, 0, False),)))
        self.assertEqual(Passage(0, 5, [(0, 5, True)]).pieces, ((0, 5, False),))

    def test_wrong_top(self):
        for value in NO_NUMBERS:
            self.assert_wrong("top", Passage, value, 5, FLAT)
            self.assert_wrong("top", Passage, value, value, value)

    def test_wrong_target(self):
        for value in NO_NUMBERS:
            self.assert_wrong("target", Passage, 5, value, FLAT)
            self.assert_wrong("target", Passage, 5, value, value)

    def test_pieces_that_are_no_sequence(self):
        for value in NO_SEQUENCES:
            self.assert_wrong("pieces", Passage, 5, 5, value)

    def test_pieces_that_are_no_triples(self):
        for value in list(NO_NUMBERS) + [0, 5, (0, 0), (0, 0, False, False), [0, 0, False], "abc"]:
            self.assert_wrong("pieces", Passage, 5, 5, [value])
            self.assert_wrong("pieces", Passage, 5, 5, (value,))
            self.assert_wrong("pieces", Passage, 5, 5, [(0, 0, False), value])

    def test_wrong_parts_of_triples(self):
        for value in NO_NUMBERS:
            self.assert_wrong("pieces", Passage, 5, 5, [(value, 0, False)])
            self.assert_wrong("pieces", Passage, 5, 5, [(0, value, False)])
            self.assert_wrong("pieces", Passage, 5, 5, [(0, 0, False), (value, 1, False)])
            self.assert_wrong("pieces", Passage, 5, 5, [(0, 0, False), (1, value, False)])
            if not isinstance(value, bool):
                self.assert_wrong("pieces", Passage, 5, 5, [(0, 0, value)])
        self.assert_wrong("pieces", Passage, 5, 5, [(0, 0, 0)])
        self.assert_wrong("pieces", Passage, 5, 5, [(0, 0, 1)])

    def test_empty_pieces(self):
        self.assert_wrong("pieces", Passage, 5, 5, [])
        self.assert_wrong("pieces", Passage, 0, 0, ())
        self.assert_wrong("pieces", Passage, 5, 5, nested(8))

    def test_starts(self):
        self.assert_wrong("pieces", Passage, 5, 5, [(1, 0, False)])
        self.assert_wrong("pieces", Passage, 5, 5, [(0, 0, False), (0, 0, False)])
        self.assert_wrong("pieces", Passage, 5, 5, [(0, 0, False), (3, 1, False), (2, 2, False)])
        self.assert_wrong("pieces", Passage, 5, 5, [(0, 0, False), (3, 1, False), (3, 1, False)])
        self.assert_wrong("pieces", Passage, 5, 5, [(0, 0, False), (6, 1, False)])
        self.assertEqual(results(Passage(5, 5, [(0, 0, False), (5, 1, False)])), [0, 0, 0, 0, 0, 1])

    def test_decreases(self):
        self.assert_wrong("pieces", Passage, 5, 5, [(0, 3, False), (2, 2, False)])
        self.assert_wrong("pieces", Passage, 5, 5, [(0, 0, True), (3, 1, False)])
        self.assertEqual(results(Passage(5, 5, [(0, 0, True), (3, 2, False)])), [0, 1, 2, 2, 2, 2])

    def test_exceeds_target(self):
        self.assert_wrong("pieces", Passage, 5, 5, [(0, 6, False)])
        self.assert_wrong("pieces", Passage, 5, 5, [(0, 1, True)])
        self.assert_wrong("pieces", Passage, 5, 5, [(0, 0, False), (2, 3, True)])
        self.assert_wrong("pieces", Passage, FAR, FAR, [(0, 0, True), (FAR, FAR + 1, False)])
        self.assertEqual(Passage(5, 5, [(0, 0, False), (2, 2, True)])(5), 5)

    def test_all_small_pieces(self):
        triples = [(value, rises) for value in range(4) for rises in (False, True)]
        for many in range(4):
            for starts in combinations(range(1, 4), many):
                for rest in product(triples, repeat=many + 1):
                    pieces = [(start, *triple) for start, triple in zip((0, *starts), rest)]
                    self.check_small(3, 2, pieces)

    def check_small(self, top, target, pieces):
        values = model(top, pieces)
        if values != sorted(values) or values[-1] > target:
            self.assert_wrong("pieces", Passage, top, target, pieces)
        else:
            p = Passage(top, target, pieces)
            self.assertEqual(results(p), values)
            self.assertEqual(p.pieces, greedy(values))


class NormalFormTest(Base):
    def test_pieces_are_joined_from_the_left(self):
        p = Passage(5, 5, [(0, 0, False), (1, 1, False), (2, 1, False), (3, 1, False), (4, 1, True)])
        self.assertEqual(p.pieces, ((0, 0, True), (2, 1, False), (5, 2, False)))

    def test_single_value_does_not_rise(self):
        p = Passage(3, 9, [(0, 0, True), (1, 4, True), (2, 8, True)])
        self.assertEqual(p.pieces, ((0, 0, False), (1, 4, False), (2, 8, True)))

    def test_kinds_of_the_parts(self):
        p = Passage(9, 9, [(0, 0, True), (2, 2, False), (9, 9, True)])
        for start, value, rises in p.pieces:
            self.assertIs(start.__class__, int)
            self.assertIs(value.__class__, int)
            self.assertIs(rises.__class__, bool)
        self.assertIsInstance(p.pieces, tuple)
        self.assertIsInstance(p.pieces[0], tuple)

    def test_all_small_tables(self):
        for top, target in ((0, 0), (0, 3), (3, 0), (6, 4), (5, 6)):
            for values in tables(top, target):
                p = Passage.table(values, target)
                self.assertEqual(p.pieces, greedy(values))
                self.assertEqual(len(p), len(greedy(values)))
                self.assertEqual(Passage(top, target, p.pieces).pieces, p.pieces)

    def test_far_pieces_cut_and_joined(self):
        for top, target, pieces in far_passages(1, 60):
            p = Passage(top, target, pieces)
            self.assertLessEqual(len(p), len(pieces))
            for x in around(bounds(pieces, top) + bounds(p.pieces, top), top):
                self.assertEqual(model_at(p.pieces, x), model_at(pieces, x))
            for x in around(bounds(pieces, top), top):
                self.assertEqual(Passage(top, target, split_at(pieces, x)).pieces, p.pieces)

    def test_far_example(self):
        p = Passage(FAR, FAR, [(0, 5, False), (5, 5, False), (100, 97, True)])
        self.assertEqual(p.pieces, ((0, 5, False), (100, 97, True)))
        self.assertEqual(p(FAR), FAR - 3)


class TableTest(Base):
    def test_results(self):
        p = Passage.table([0, 0, 3, 4], 7)
        self.assertEqual((p.top, p.target, results(p)), (3, 7, [0, 0, 3, 4]))
        self.assertEqual(results(Passage.table((2,), 2)), [2])

    def test_forty_values(self):
        values = [x // 3 * 2 for x in range(40)]
        self.assertEqual(results(Passage.table(values, FAR)), values)

    def test_wrong_target_comes_first(self):
        for value in NO_NUMBERS:
            self.assert_wrong("target", Passage.table, [0, 1], value)
            self.assert_wrong("target", Passage.table, value, value)

    def test_wrong_values(self):
        for value in NO_SEQUENCES + [[], (), [3, 2], (0, 1, 0), [6], [0, 6], (0, 5, 6)]:
            self.assert_wrong("values", Passage.table, value, 5)
        for value in NO_NUMBERS:
            self.assert_wrong("values", Passage.table, [value], 5)
            self.assert_wrong("values", Passage.table, (0, value), 5)
            self.assert_wrong("values", Passage.table, [0, value, 5], 5)


class SameTest(Base):
    def test_maps_each_value_to_itself(self):
        for top in (0, 1, 2, 9):
            self.assertEqual(results(Passage.same(top)), list(range(top + 1)))
            self.assertEqual(Passage.same(top).target, top)
        self.assertEqual(Passage.same(FAR).pieces, ((0, 0, True),))
        self.assertEqual(Passage.same(0).pieces, ((0, 0, False),))


class ResultsTest(Base):
    def test_no_value_of_the_scale(self):
        for value in list(NO_NUMBERS) + [10, 11, FAR, 10 ** 30]:
            self.assert_no_value(SOME, value)
        for value in list(NO_NUMBERS) + [3, 9, FAR, 10 ** 30]:
            self.assert_no_value(SOME.sources, value)
        self.assertEqual((SOME(0), SOME(9)), (0, 2))

    def test_sources_of_all_small_passages(self):
        for p in all_passages(5, 4):
            values = results(p)
            for y in range(5):
                found = [x for x in range(6) if values[x] == y]
                self.assertEqual(p.sources(y), (found[0], found[-1]) if found else None)

    def test_sources_are_a_tuple(self):
        self.assertIsInstance(SOME.sources(0), tuple)

    def test_far_results_and_sources(self):
        for top, target, pieces in far_passages(2, 60):
            p = Passage(top, target, pieces)
            for x in around(bounds(pieces, top), top):
                self.assertEqual(p(x), model_at(pieces, x))
            for y in around(levels(pieces, top), target):
                low = first_from(lambda x: model_at(pieces, x) >= y, top)
                high = first_from(lambda x: model_at(pieces, x) > y, top) - 1
                self.assertEqual(p.sources(y), (low, high) if low <= high else None)

    def test_many_pieces(self):
        values = [2 * x for x in range(41)]
        p = Passage.table(values, 80)
        self.assertEqual((len(p), results(p)), (41, values))
        self.assertEqual([p.sources(y) for y in (0, 1, 40, 79, 80)], [(0, 0), None, (20, 20), None, (40, 40)])


if __name__ == "__main__":
    unittest.main()
