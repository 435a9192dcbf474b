"""[8]: products, maxima, minima and comparisons of passages."""

import operator
import unittest
from random import Random

from scaleways.errors import Mismatch
from scaleways.passages import Passage
from tests.support import FAR, NO_NUMBERS, SOME, all_passages, around, bounds, far_passages, far_pieces
from tests.support import first_from, greedy, model_at, results

ARITHMETIC = (operator.rshift, operator.or_, operator.and_)
IN_PLACE = (operator.irshift, operator.ior, operator.iand)
ORDERS = (operator.le, operator.ge, operator.lt, operator.gt)

NO_PASSAGES = [value for value in NO_NUMBERS if not isinstance(value, Passage)] + [0, 3, 2.5, {}, object()]


def expected_order(compare, values, others):
    """Return how tables of one length compare."""
    up = all(value <= other for value, other in zip(values, others))
    down = all(value >= other for value, other in zip(values, others))
    if compare is operator.le:
        return up
    if compare is operator.ge:
        return down
    return values != others and (up if compare is operator.lt else down)


class ProductTest(unittest.TestCase):
    def test_all_small_products(self):
        for p in all_passages(3, 4):
            for q in all_passages(4, 2):
                both = p >> q
                self.assertEqual((both.top, both.target), (3, 2))
                values = [q(p(x)) for x in range(4)]
                self.assertEqual(results(both), values)
                self.assertEqual(both.pieces, greedy(values))

    def test_mismatch(self):
        for target, top in ((4, 5), (5, 4), (0, 1), (FAR, FAR - 1)):
            with self.assertRaises(Mismatch):
                Passage(3, target, [(0, 0, False)]) >> Passage(top, 3, [(0, 0, False)])

    def test_far_products(self):
        random = Random(4)
        for top, target, pieces in far_passages(3, 100):
            end = random.choice((9, target, FAR))
            others = far_pieces(random, target, end)
            both = Passage(top, target, pieces) >> Passage(target, end, others)
            self.assertEqual((both.top, both.target), (top, end))
            cuts = [first_from(lambda x: model_at(pieces, x) >= y, top) for y in bounds(others, target)]
            for x in around(bounds(pieces, top) + bounds(both.pieces, top) + cuts, top):
                self.assertEqual(both(x), model_at(others, model_at(pieces, x)))

    def test_same_is_neutral(self):
        for p in all_passages(3, 4):
            self.assertEqual(Passage.same(3) >> p, p)
            self.assertEqual(p >> Passage.same(4), p)


class MaximumTest(unittest.TestCase):
    def test_all_small_pairs(self):
        for p in all_passages(4, 4):
            for q in all_passages(4, 4):
                most = [max(p(x), q(x)) for x in range(5)]
                least = [min(p(x), q(x)) for x in range(5)]
                self.assertEqual((p | q).pieces, greedy(most))
                self.assertEqual((p & q).pieces, greedy(least))

    def test_scales_are_kept(self):
        p = Passage.table([0, 1, 1], 9)
        q = Passage.table([0, 0, 5], 9)
        for both in (p | q, p & q):
            self.assertEqual((both.top, both.target), (2, 9))

    def test_far_pairs(self):
        found = far_passages(5, 60, (FAR,))
        for (top, target, pieces), (_, _, others) in zip(found, found[1:]):
            p = Passage(top, target, pieces)
            q = Passage(top, target, others)
            points = [bounds(cut, top) for cut in (pieces, others, (p | q).pieces, (p & q).pieces)]
            for x in around(sum(points, []), top):
                pair = (model_at(pieces, x), model_at(others, x))
                self.assertEqual((p | q)(x), max(pair))
                self.assertEqual((p & q)(x), min(pair))

    def test_far_crossing(self):
        rising = Passage.same(FAR)
        level = Passage(FAR, FAR, [(0, 7, False)])
        self.assertEqual((rising | level).pieces, ((0, 7, False), (8, 8, True)))
        self.assertEqual((level | rising).pieces, ((0, 7, False), (8, 8, True)))
        self.assertEqual((rising & level).pieces, ((0, 0, True), (8, 7, False)))
        self.assertEqual((level & rising).pieces, ((0, 0, True), (8, 7, False)))


class ComparisonTest(unittest.TestCase):
    def test_all_small_pairs(self):
        for p in all_passages(3, 3):
            for q in all_passages(3, 3):
                for compare in ORDERS:
                    self.assertIs(compare(p, q), expected_order(compare, results(p), results(q)))
                self.assertIs(p == q, results(p) == results(q))
                self.assertIs(p != q, results(p) != results(q))

    def test_far_pairs(self):
        for top, target, pieces in far_passages(7, 40):
            p = Passage(top, target, pieces)
            again = Passage(top, target, [*pieces])
            self.assertTrue(p == again and p <= again and p >= again)
            self.assertFalse(p != again or p < again or p > again)
            for x in bounds(pieces, top):
                if p(x) < target and (x == top or p(x + 1) > p(x)):
                    more = self.with_value(p, x, p(x) + 1)
                    self.assertTrue(p < more and more > p and p <= more and more >= p and p != more)
                    self.assertFalse(p > more or more < p or p >= more or more <= p or p == more)

    def with_value(self, p, x, value):
        """Return the passage that differs from p at x only."""
        pieces = [piece for piece in p.pieces if piece[0] < x] + [(x, value, False)]
        if x < p.top:
            rises = [piece for piece in p.pieces if piece[0] <= x + 1][-1][2]
            pieces.append((x + 1, p(x + 1), rises))
        pieces += [piece for piece in p.pieces if piece[0] > x + 1]
        return Passage(p.top, p.target, pieces)

    def test_neither_is_less(self):
        p = Passage.table([0, 2], 2)
        q = Passage.table([1, 1], 2)
        for compare in ORDERS:
            self.assertIs(compare(p, q), False)

    def test_equal_only_with_the_same_scales(self):
        self.assertNotEqual(Passage.table([0, 1], 1), Passage.table([0, 1], 2))
        self.assertNotEqual(Passage(1, 1, [(0, 0, False)]), Passage(2, 1, [(0, 0, False)]))
        self.assertEqual(Passage(2, 1, [(0, 0, False), (1, 0, False)]), Passage(2, 1, ((0, 0, False),)))

    def test_equal_to_nothing_of_another_class(self):
        for value in NO_PASSAGES + [str(SOME), SOME.pieces, (9, 2, SOME.pieces)]:
            self.assertIs(SOME == value, False)
            self.assertIs(value == SOME, False)
            self.assertIs(SOME != value, True)
            self.assertIs(value != SOME, True)


class OperandsTest(unittest.TestCase):
    def test_mismatch(self):
        p = Passage(3, 4, [(0, 0, False)])
        for top, target in ((2, 4), (3, 5), (4, 3), (3, 3), (4, 4)):
            q = Passage(top, target, [(0, 0, False)])
            for compare in (operator.or_, operator.and_, *ORDERS, *IN_PLACE[1:]):
                for pair in ((p, q), (q, p)):
                    with self.assertRaises(Mismatch):
                        compare(*pair)

    def test_no_passages(self):
        for value in NO_PASSAGES:
            for compare in (*ARITHMETIC, *ORDERS, *IN_PLACE):
                for pair in ((SOME, value), (value, SOME)):
                    with self.assertRaises(TypeError):
                        compare(*pair)

    def test_operands_stay_as_they_are(self):
        for p in all_passages(2, 2):
            for q in all_passages(2, 2):
                for change, change_in_place in zip(ARITHMETIC, IN_PLACE):
                    self.check_in_place(p, q, change, change_in_place)

    def check_in_place(self, p, q, change, change_in_place):
        before = [(one.top, one.target, one.pieces) for one in (p, q)]
        for one, two in ((p, q), (p, p)):
            other = change_in_place(one, two)
            self.assertIsNot(other, one)
            self.assertIsNot(other, two)
            self.assertEqual(other, change(one, two))
        self.assertEqual([(one.top, one.target, one.pieces) for one in (p, q)], before)


if __name__ == "__main__":
    unittest.main()
