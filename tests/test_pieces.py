"""The arithmetic of stretches, as far as passages and partners do not show it."""

import unittest

from scaleways.pieces import aligned, clipped, cut, stretches

PIECES = ((0, 2, False), (3, 2, True), (6, 9, False))

ROWS = [(0, 2, 2, False), (3, 5, 2, True), (6, 7, 9, False)]


class StretchesTest(unittest.TestCase):
    def test_ends(self):
        self.assertEqual(stretches(PIECES, 7), ROWS)
        self.assertEqual(stretches(((0, 4, False),), 0), [(0, 0, 4, False)])

    def test_cut(self):
        self.assertEqual(cut((3, 5, 2, True), 4, 4), (4, 4, 3, True))
        self.assertEqual(cut((0, 2, 2, False), 1, 2), (1, 2, 2, False))

    def test_clipped(self):
        self.assertEqual(clipped(ROWS, 0, 7), ROWS)
        self.assertEqual(clipped(ROWS, 1, 4), [(1, 2, 2, False), (3, 4, 2, True)])
        self.assertEqual(clipped(ROWS, 4, 6), [(4, 5, 3, True), (6, 6, 9, False)])
        self.assertEqual(clipped(ROWS, 4, 4), [(4, 4, 3, True)])
        self.assertEqual(clipped(ROWS, 1, 0), [])

    def test_aligned(self):
        pairs = aligned(ROWS, [(0, 3, 1, True), (4, 7, 4, False)])
        self.assertEqual([row for row, _ in pairs], [
            (0, 2, 2, False), (3, 3, 2, True), (4, 5, 3, True), (6, 7, 9, False),
        ])
        self.assertEqual([other for _, other in pairs], [
            (0, 2, 1, True), (3, 3, 4, True), (4, 5, 4, False), (6, 7, 4, False),
        ])


if __name__ == "__main__":
    unittest.main()
