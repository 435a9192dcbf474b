"""[3], [10], [11], [12]: partners and losses on scales up to the limits."""

import unittest
from random import Random

from scaleways.partners import at_least, at_most, fits, lost, lowered, misfit, raised
from scaleways.passages import Passage
from tests.support import FAR, around, bounds, far_passages, far_pieces, first_from, levels, model_at

LIMIT = [(at * FAR // 12, at * FAR // 12, at % 2 == 0) for at in range(12)]


def far_partners(seed, many):
    """Return pairs of the pieces of a great passage and of one that leads back."""
    random = Random(seed)
    found = []
    for top, target, pieces in far_passages(seed, many):
        found.append((top, target, pieces, far_pieces(random, target, top)))
    return found


def expected_misfit(top, target, pieces, others):
    """Return the first misfit, searched at and beside all bounds."""
    for x in around(bounds(pieces, top) + levels(others, target), top):
        y = model_at(pieces, x)
        least = first_from(lambda y: model_at(others, y) >= x, target)
        if y != least:
            return (x, min(y, least))
    return None


def expected_loss(top, target, pieces, others):
    """Return the least x with the greatest loss, searched at and beside all bounds."""
    cuts = [first_from(lambda x: model_at(pieces, x) >= y, top) for y in bounds(others, target)]
    points = around(bounds(pieces, top) + cuts, top)
    losses = [abs(x - model_at(others, model_at(pieces, x))) for x in points]
    return (points[losses.index(max(losses))], max(losses))


class FarPartnersTest(unittest.TestCase):
    def test_at_most(self):
        for top, target, pieces in far_passages(21, 80):
            p = Passage(top, target, pieces)
            q = at_most(p)
            if p(0) > 0:
                self.assertIsNone(q)
                continue
            self.assertEqual((q.top, q.target), (target, top))
            for y in around(levels(pieces, top) + bounds(q.pieces, target), target):
                self.assertEqual(q(y), first_from(lambda x: model_at(pieces, x) > y, top) - 1)
            self.assertTrue(fits(p, q))
            self.assertEqual(at_least(q), p)

    def test_at_least(self):
        for top, target, pieces in far_passages(22, 80):
            p = Passage(top, target, pieces)
            q = at_least(p)
            if p(top) < target:
                self.assertIsNone(q)
                continue
            self.assertEqual((q.top, q.target), (target, top))
            for y in around(levels(pieces, top) + bounds(q.pieces, target), target):
                self.assertEqual(q(y), first_from(lambda x: model_at(pieces, x) >= y, top))
            self.assertTrue(fits(q, p))
            self.assertEqual(at_most(q), p)

    def test_misfit_of_any_pair(self):
        for top, target, pieces, others in far_partners(23, 80):
            p = Passage(top, target, pieces)
            q = Passage(target, top, others)
            self.assertEqual(misfit(p, q), expected_misfit(top, target, pieces, others))
            self.assertEqual(fits(p, q), misfit(p, q) is None)

    def test_misfit_of_a_changed_partner(self):
        random = Random(24)
        for top, target, pieces in far_passages(24, 80):
            p = lowered(Passage(top, target, pieces))
            q = at_most(p)
            for _ in range(3):
                y = random.choice(around(bounds(q.pieces, target), target))
                level = Passage(target, top, [(0, q(y), False)])
                for other in (q | level, q & level):
                    found = misfit(p, other)
                    self.assertEqual(found, expected_misfit(top, target, p.pieces, other.pieces))
                    self.assertEqual(found is None, other == q)

    def test_loss(self):
        for top, target, pieces, others in far_partners(25, 80):
            p = Passage(top, target, pieces)
            q = Passage(target, top, others)
            self.assertEqual(lost(p, q), expected_loss(top, target, pieces, others))

    def test_lowered_and_raised(self):
        for top, target, pieces in far_passages(26, 80):
            p = Passage(top, target, pieces)
            for x in around(bounds(pieces, top), top):
                self.assertEqual(lowered(p)(x), 0 if x == 0 else p(x))
                self.assertEqual(raised(p)(x), target if x == top else p(x))
            self.assertTrue(lowered(p) <= p <= raised(p))
            self.assertIsNotNone(at_most(lowered(p)))
            self.assertIsNotNone(at_least(raised(p)))

    def test_twelve_pieces_on_the_greatest_scale(self):
        p = Passage(FAR, FAR, LIMIT)
        self.assertEqual(len(p), 12)
        self.assertTrue(fits(p, at_most(p)))
        self.assertEqual(lost(p, Passage.same(FAR)), (FAR, FAR - 11 * FAR // 12))
        self.assertEqual(misfit(p, Passage.same(FAR)), (FAR // 12 + 1, FAR // 12))


if __name__ == "__main__":
    unittest.main()
