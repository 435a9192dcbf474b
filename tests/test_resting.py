"""[13]: where values come to rest, and after how many rounds."""

import unittest
from random import Random

from scaleways.errors import Mismatch, NoValue
from scaleways.passages import Passage
from scaleways.resting import fixed, rest, rounds, slowest
from tests.support import FAR, NO_NUMBERS, SOME, all_passages, around, bounds, far_pieces, near_passage, results


def walk(values, x):
    """Return where x comes to rest, and after how many single steps."""
    many = 0
    while values[x] != x:
        x = values[x]
        many += 1
    return (x, many)


def runs(values):
    """Return the longest stretches of values that are mapped to themselves."""
    found = []
    for x, value in enumerate(values):
        if value == x and x > 0 and values[x - 1] == x - 1:
            found[-1] = (found[-1][0], x)
        elif value == x:
            found.append((x, x))
    return tuple(found)


def middle_passages(seed, many):
    """Return random passages of some hundred values to themselves."""
    random = Random(seed)
    tops = [random.randint(1, 400) for _ in range(many)]
    return [Passage(top, top, far_pieces(random, top, top)) for top in tops]


def far_steady(seed, many):
    """Return random passages of a great scale to itself."""
    random = Random(seed)
    found = [Passage(FAR, FAR, far_pieces(random, FAR, FAR)) for _ in range(many)]
    return found + [near_passage(random, FAR, FAR) for _ in range(many)]


class SmallTest(unittest.TestCase):
    def check(self, p):
        values = results(p)
        walks = [walk(values, x) for x in range(p.top + 1)]
        counts = [many for _, many in walks]
        self.assertEqual(results(rest(p)), [end for end, _ in walks])
        self.assertEqual((rest(p).top, rest(p).target), (p.top, p.top))
        self.assertEqual([rounds(p, x) for x in range(p.top + 1)], counts)
        self.assertEqual(slowest(p), (counts.index(max(counts)), max(counts)))
        self.assertEqual(fixed(p), runs(values))

    def test_all_small_passages(self):
        for top in range(6):
            for p in all_passages(top, top):
                self.check(p)

    def test_middle_passages(self):
        for p in middle_passages(13, 100):
            self.check(p)
        random = Random(14)
        for _ in range(100):
            top = random.randint(1, 300)
            self.check(near_passage(random, top, top))

    def test_results_are_in_normal_form(self):
        for p in all_passages(4, 4):
            self.assertEqual(rest(p).pieces, Passage.table(results(rest(p)), 4).pieces)


class FarTest(unittest.TestCase):
    def points(self, p):
        """Return values at and beside the bounds of the pieces, the results there, and some between."""
        ends = bounds(p.pieces, p.top)
        between = [(ends[at] + ends[at + 1]) // 2 for at in range(len(ends) - 1)]
        return around(ends + [p(x) for x in ends] + between, p.top)

    def test_each_round_is_one_step(self):
        for p in far_steady(131, 60):
            whole = rest(p)
            for x in self.points(p):
                y = p(x)
                self.assertEqual(rounds(p, x), 0 if x == y else rounds(p, y) + 1)
                self.assertEqual(whole(x), x if x == y else whole(y))

    def test_rest_is_at_rest(self):
        for p in far_steady(132, 60):
            whole = rest(p)
            self.assertEqual((whole >> p, whole >> whole, p >> whole), (whole, whole, whole))
            self.assertEqual(fixed(whole), fixed(p))

    def test_fixed(self):
        for p in far_steady(133, 60):
            pairs = fixed(p)
            for x in self.points(p):
                self.assertEqual(p(x) == x, any(low <= x <= high for low, high in pairs))
            for low, high in pairs:
                self.assertEqual((p(low), p(high), p((low + high) // 2)), (low, high, (low + high) // 2))
                self.assertTrue(low == 0 or p(low - 1) != low - 1)
                self.assertTrue(high == p.top or p(high + 1) != high + 1)
            self.assertEqual(pairs, tuple(sorted(pairs)))

    def test_slowest(self):
        for p in far_steady(134, 60):
            x, most = slowest(p)
            self.assertEqual(rounds(p, x), most)
            for z in self.points(p) + around([x], p.top):
                self.assertLessEqual(rounds(p, z), most)
                self.assertTrue(z >= x or rounds(p, z) < most)

    def test_one_step_at_a_time(self):
        down = Passage(FAR, FAR, [(0, 0, False), (1, 0, True)])
        self.assertEqual((str(rest(down)), slowest(down), fixed(down)), (f"{FAR} {FAR} 0=0", (FAR, FAR), ((0, 0),)))
        self.assertEqual(rounds(down, 123456789012), 123456789012)
        up = Passage(FAR, FAR, [(0, 1, True), (FAR, FAR, False)])
        self.assertEqual((str(rest(up)), slowest(up)), (f"{FAR} {FAR} 0={FAR}", (0, FAR)))
        self.assertEqual(rounds(up, 1), FAR - 1)

    def test_longer_steps(self):
        for step in (2, 3, 7, 10 ** 6, 10 ** 11):
            down = Passage(FAR, FAR, [(0, 0, False), (step, 0, True)])
            many = -(-FAR // step)
            self.assertEqual(slowest(down), ((many - 1) * step + 1, many))
            self.assertEqual(rounds(down, FAR // 7), -(-(FAR // 7) // step))
            up = Passage(FAR, FAR, [(0, step, True), (FAR - step + 1, FAR, False)])
            self.assertEqual(slowest(up), (0, many))

    def test_different_directions(self):
        half = FAR // 2
        p = Passage(FAR, FAR, [(0, 0, False), (1, 0, True), (half, half + 1, True), (FAR, FAR, False)])
        self.assertEqual(str(rest(p)), f"{FAR} {FAR} 0=0 {half}={FAR}")
        self.assertEqual(slowest(p), (half, FAR - half))
        self.assertEqual((rounds(p, half - 1), rounds(p, half)), (half - 1, FAR - half))
        self.assertEqual(fixed(p), ((0, 0), (FAR, FAR)))

    def test_twelve_pieces(self):
        part = FAR // 12
        pieces = [(at * part, at * part - (1 if at else 0), True) for at in range(12)]
        p = Passage(FAR, FAR, pieces)
        self.assertEqual(fixed(p), ((0, part - 1),))
        self.assertEqual(slowest(p), (FAR, FAR - part + 1))
        self.assertEqual(str(rest(p)), f"{FAR} {FAR} 0=0+ {part}={part - 1}")

    def test_nothing_moves(self):
        for top in (0, 1, FAR):
            same = Passage.same(top)
            self.assertEqual((rest(same), slowest(same), fixed(same)), (same, (0, 0), ((0, top),)))
            self.assertEqual(rounds(same, top), 0)

    def test_of_the_document(self):
        far = Passage(FAR, FAR, [(0, 5, False), (5, 5, False), (100, 97, True)])
        self.assertEqual((fixed(far), slowest(far), rounds(far, 1000)), (((5, 5),), (FAR, 333333333302), 302))


class WrongTest(unittest.TestCase):
    def test_mismatch(self):
        for p in (SOME, Passage.same(3) >> Passage(3, 4, [(0, 0, True)]), Passage(0, FAR, [(0, 0, False)])):
            for ask in (rest, slowest, fixed, lambda p: rounds(p, 0)):
                with self.assertRaises(Mismatch):
                    ask(p)

    def test_mismatch_comes_before_no_value(self):
        for x in (*NO_NUMBERS, 10, FAR):
            with self.assertRaises(Mismatch):
                rounds(SOME, x)

    def test_no_value(self):
        p = Passage(9, 9, [(0, 0, False), (1, 0, True)])
        for x in (*NO_NUMBERS, 10, FAR, FAR * FAR):
            with self.assertRaises(NoValue) as caught:
                rounds(p, x)
            self.assertIs(caught.exception.value, x)
        self.assertEqual([rounds(p, x) for x in (0, 9)], [0, 9])


if __name__ == "__main__":
    unittest.main()
