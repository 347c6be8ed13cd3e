"""Promise 1, meets, and what the document says ahead of it."""

import unittest
from fractions import Fraction
from itertools import product

from kit import drawn, numbers, point_meets
from sidesleft.desk import meets


class Ordinary(unittest.TestCase):
    def test_one_unknown(self):
        sides = [1, 5, -1, -2]  # x at most 5, and at least 2
        for x, answer in ((1, 0), (2, 1), (3, 1), (5, 1), (6, 0), (-3, 0)):
            self.assertEqual(meets(1, 1, sides, [x]), [answer], x)

    def test_two_unknowns(self):
        sides = [1, 0, 4, 0, 1, 3, -1, -1, -2]  # x at most 4, y at most 3, x + y at least 2
        for x, answer in (([2, 2], 1), ([4, 3], 1), ([4, 1], 1), ([1, 1], 1), ([5, 1], 0),
                          ([1, 4], 0), ([1, 0], 0), ([4, -2], 1), ([4, -3], 0)):
            self.assertEqual(meets(2, 1, sides, x), [answer], x)

    def test_three_unknowns(self):
        sides = [1, 2, 3, 6, -1, 0, 0, 0, 0, -1, 0, 0, 0, 0, -1, 0]
        for x, answer in (([0, 0, 0], 1), ([6, 0, 0], 1), ([0, 3, 0], 1), ([0, 0, 2], 1), ([1, 1, 1], 1),
                          ([1, 1, 2], 0), ([7, 0, 0], 0), ([-1, 0, 0], 0), ([0, -1, 0], 0), ([0, 0, -1], 0)):
            self.assertEqual(meets(3, 1, sides, x), [answer], x)

    def test_each_side_counts(self):
        for missed in range(8):
            sides = [n for k in range(8) for n in (1, 0, 2 if k == missed else 3)]
            self.assertEqual(meets(2, 1, sides, [3, 0]), [0], missed)
            self.assertEqual(meets(2, 1, sides, [2, 0]), [1], missed)

    def test_each_unknown_has_its_own_number(self):
        self.assertEqual(meets(3, 1, [1, 10, 100, 321], [1, 2, 3]), [1])
        self.assertEqual(meets(3, 1, [1, 10, 100, 320], [1, 2, 3]), [0])

    def test_the_point_is_divided_by_q(self):
        self.assertEqual(meets(1, 2, [1, 1], [2]), [1])
        self.assertEqual(meets(1, 2, [1, 1], [3]), [0])
        self.assertEqual(meets(1, 3, [2, 1], [1]), [1])
        self.assertEqual(meets(1, 3, [2, 1], [2]), [0])
        self.assertEqual(meets(1, 3, [3, -1], [-1]), [1])
        self.assertEqual(meets(1, 4, [3, -1], [-1]), [0])
        self.assertEqual(meets(2, 6, [2, 3, 1], [0, 2]), [1])
        self.assertEqual(meets(2, 6, [2, 3, 1], [1, 2]), [0])
        self.assertEqual(meets(3, 7, [1, 1, 1, 1], [2, 2, 3]), [1])
        self.assertEqual(meets(3, 7, [1, 1, 1, 1], [2, 3, 3]), [0])

    def test_b_is_not_rounded(self):
        # -1/2 is above -1, though a division that drops the rest upward or downward may hide it.
        self.assertEqual(meets(1, 2, [1, -1], [-1]), [0])
        self.assertEqual(meets(1, 2, [1, 0], [1]), [0])
        self.assertEqual(meets(1, 2, [1, 0], [-1]), [1])

    def test_not_in_lowest_terms(self):
        self.assertEqual(meets(2, 10, [1, 1, 1], [5, 5]), meets(2, 2, [1, 1, 1], [1, 1]))
        self.assertEqual(meets(2, 10, [1, 1, 1], [5, 6]), [0])


class Edges(unittest.TestCase):
    def test_no_sides(self):
        for d in (1, 2, 3):
            self.assertEqual(meets(d, 1, [], [7] * d), [1])
            self.assertEqual(meets(d, 1000, [], [-1000] * d), [1])

    def test_eight_sides(self):
        for d in (1, 2, 3):
            side = [1] + [0] * (d - 1) + [5]
            self.assertEqual(meets(d, 1, side * 8, [5] * d), [1])
            self.assertEqual(meets(d, 1, side * 8, [6] * d), [0])

    def test_q_at_its_ends(self):
        self.assertEqual(meets(1, 1, [1, 1], [1]), [1])
        self.assertEqual(meets(1, 1000, [1, 1], [1000]), [1])
        self.assertEqual(meets(1, 1000, [1000, 1], [1]), [1])
        self.assertEqual(meets(1, 1000, [1000, 1], [2]), [0])
        self.assertEqual(meets(1, 1000, [1000, 999], [1000]), [0])

    def test_numbers_at_their_ends(self):
        self.assertEqual(meets(3, 1, [1000, 1000, 1000, 1000], [1000, 1000, 1000]), [0])
        self.assertEqual(meets(3, 1, [-1000, -1000, -1000, -1000], [1000, 1000, 1000]), [1])
        self.assertEqual(meets(3, 1, [-1000, -1000, -1000, 1000], [-1000, -1000, -1000]), [0])
        self.assertEqual(meets(3, 1000, [1000, 0, 0, 1000], [1000, 1000, 1000]), [1])
        self.assertEqual(meets(3, 999, [1000, 0, 0, 1000], [1000, 1000, 1000]), [0])

    def test_zero_for_each_unknown(self):
        for d in (1, 2, 3):
            for b, answer in ((0, 1), (1, 1), (1000, 1), (-1, 0), (-1000, 0)):
                self.assertEqual(meets(d, 9, [0] * d + [b], [4] * d), [answer], (d, b))


class SecondWay(unittest.TestCase):
    def test_all_small_ones(self):
        for a, b, x, q in product(range(-3, 4), range(-3, 4), range(-4, 5), range(1, 5)):
            answer = 1 if Fraction(a * x, q) <= b else 0
            self.assertEqual(meets(1, q, [a, b], [x]), [answer], (a, b, x, q))

    def test_many(self):
        source = numbers(1)
        seen = {0: 0, 1: 0}
        for turn in range(3000):
            d = drawn(source, 1, 3)
            most = (3, 20, 1000)[turn % 3]
            many = drawn(source, 0, 8)
            sides = [drawn(source, -most, most) for _ in range(many * (d + 1))]
            for at in range(d, len(sides), d + 1):  # b more often above 0, so that both answers come
                sides[at] = abs(sides[at])
            x = [drawn(source, -most, most) for _ in range(d)]
            q = drawn(source, 1, most)
            answer = 1 if point_meets(d, sides, [Fraction(n, q) for n in x]) else 0
            seen[answer] += 1
            self.assertEqual(meets(d, q, sides, x), [answer], (d, q, sides, x))
        self.assertGreater(min(seen.values()), 500)


if __name__ == "__main__":
    unittest.main()
