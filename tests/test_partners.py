"""[10], [11], [12]: partners and losses, compared with a search over all values."""

import unittest
from itertools import product

from scaleways.errors import Mismatch
from scaleways.partners import at_least, at_most, fits, lost, lowered, misfit, raised
from scaleways.passages import Passage
from tests.support import FAR, SOME, all_passages, greedy, results

SCALES = ((0, 0), (0, 2), (2, 0), (1, 1), (2, 3), (3, 2), (3, 3))


def pairs(top, target):
    """Return all pairs of a passage and one that leads back."""
    return product(all_passages(top, target), all_passages(target, top))


def searched_misfit(p, q):
    """Return the first pair for which only one of both holds, by trying all pairs."""
    for x in range(p.top + 1):
        for y in range(q.top + 1):
            if (p(x) <= y) != (x <= q(y)):
                return (x, y)
    return None


def searched_loss(p, q):
    """Return the least x with the greatest difference, by trying all values."""
    losses = [abs(x - q(p(x))) for x in range(p.top + 1)]
    return (losses.index(max(losses)), max(losses))


class FitTest(unittest.TestCase):
    def test_all_small_pairs(self):
        for top, target in SCALES:
            for p, q in pairs(top, target):
                found = searched_misfit(p, q)
                self.assertEqual(misfit(p, q), found, (str(p), str(q)))
                self.assertIs(fits(p, q), found is None, (str(p), str(q)))

    def test_misfit_is_a_tuple(self):
        self.assertIsInstance(misfit(SOME, Passage(2, 9, [(0, 0, False)])), tuple)

    def test_partner_that_never_reaches_the_top(self):
        p = Passage(5, 3, [(0, 0, False)])
        self.assertEqual(misfit(p, Passage(3, 5, [(0, 4, False)])), (5, 0))
        self.assertEqual(misfit(Passage(5, 3, [(0, 3, False)]), Passage(3, 5, [(0, 5, False)])), (0, 0))
        self.assertEqual(misfit(Passage(1, 3, [(0, 0, False), (1, 3, False)]), Passage(3, 1, [(0, 0, False)])), (1, 3))

    def test_mismatch(self):
        for top, target, top_two, target_two in ((3, 4, 3, 3), (3, 4, 4, 4), (3, 4, 3, 4), (3, 4, 5, 2)):
            p = Passage(top, target, [(0, 0, False)])
            q = Passage(top_two, target_two, [(0, 0, False)])
            for ask in (fits, misfit, lost):
                for pair in ((p, q), (q, p)):
                    with self.assertRaises(Mismatch):
                        ask(*pair)


class PartnersTest(unittest.TestCase):
    def test_all_small_passages(self):
        for top, target in (*SCALES, (4, 5), (6, 3)):
            for p in all_passages(top, target):
                self.check_at_most(p)
                self.check_at_least(p)

    def check_at_most(self, p):
        q = at_most(p)
        if p(0) > 0:
            self.assertIsNone(q)
            return
        values = [max(x for x in range(p.top + 1) if p(x) <= y) for y in range(p.target + 1)]
        self.assertEqual((q.top, q.target, results(q)), (p.target, p.top, values))
        self.assertEqual(q.pieces, greedy(values))
        self.assertTrue(fits(p, q))
        self.assertEqual(at_least(q), p)

    def check_at_least(self, p):
        q = at_least(p)
        if p(p.top) < p.target:
            self.assertIsNone(q)
            return
        values = [min(x for x in range(p.top + 1) if p(x) >= y) for y in range(p.target + 1)]
        self.assertEqual((q.top, q.target, results(q)), (p.target, p.top, values))
        self.assertEqual(q.pieces, greedy(values))
        self.assertTrue(fits(q, p))
        self.assertEqual(at_most(q), p)

    def test_there_is_a_partner_exactly_if_one_fits(self):
        for top, target in SCALES:
            for p in all_passages(top, target):
                backs = all_passages(target, top)
                self.assertEqual([q for q in backs if searched_misfit(p, q) is None], self.listed(at_most(p)))
                self.assertEqual([q for q in backs if searched_misfit(q, p) is None], self.listed(at_least(p)))

    def listed(self, partner):
        """Return a list of the partner, or an empty one."""
        return [] if partner is None else [partner]

    def test_same_is_its_own_partner(self):
        for top in (0, 1, 5, FAR):
            self.assertEqual(at_most(Passage.same(top)), Passage.same(top))
            self.assertEqual(at_least(Passage.same(top)), Passage.same(top))


class LossTest(unittest.TestCase):
    def test_all_small_pairs(self):
        for top, target in SCALES:
            for p, q in pairs(top, target):
                self.assertEqual(lost(p, q), searched_loss(p, q), (str(p), str(q)))

    def test_both_directions(self):
        p = Passage.table([0, 1, 1, 1, 1], 1)
        self.assertEqual(lost(p, Passage.table([0, 4], 4)), (1, 3))
        self.assertEqual(lost(p, Passage.table([0, 1], 4)), (4, 3))
        self.assertEqual(lost(p, Passage.table([2, 3], 4)), (0, 2))

    def test_nothing_is_lost(self):
        self.assertEqual(lost(Passage.same(FAR), Passage.same(FAR)), (0, 0))


class LoweredTest(unittest.TestCase):
    def test_all_small_passages(self):
        for top, target in (*SCALES, (4, 3)):
            for p in all_passages(top, target):
                before = (p.top, p.target, p.pieces)
                low = lowered(p)
                high = raised(p)
                self.assertEqual((low.top, low.target, results(low)), (top, target, [0] + results(p)[1:]))
                self.assertEqual((high.top, high.target, results(high)), (top, target, results(p)[:-1] + [target]))
                self.assertEqual((p.top, p.target, p.pieces), before)

    def test_greatest_and_least_with_a_partner(self):
        for top, target in SCALES:
            every = all_passages(top, target)
            for p in every:
                below = [q for q in every if q <= p and at_most(q) is not None]
                above = [q for q in every if q >= p and at_least(q) is not None]
                self.assertIn(lowered(p), below)
                self.assertTrue(all(q <= lowered(p) for q in below))
                self.assertIn(raised(p), above)
                self.assertTrue(all(q >= raised(p) for q in above))


if __name__ == "__main__":
    unittest.main()
