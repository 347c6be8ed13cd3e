"""Promise 5, corners, and what the document says ahead of it."""

import unittest
from fractions import Fraction
from itertools import product
from math import gcd, lcm

from kit import drawn, in_sides, numbers, points_on, rank
from sidesleft.desk import corners, meets

CUBE = [1, 0, 0, 1, -1, 0, 0, 1, 0, 1, 0, 1, 0, -1, 0, 1, 0, 0, 1, 1, 0, 0, -1, 1]


def told(point):
    """A point of fractions as it's told: its numbers, and the least by which they can all be divided."""
    q = lcm(*(n.denominator for n in point))
    return [int(n * q) for n in point] + [q]


def second_way(d, row):
    found = sorted(set(tuple(point) for point in points_on(d, row, [d])))
    return [len(found)] + [n for point in found for n in told(point)]


def is_corner(d, row, x, q):
    """By the document's words: it meets the sides, and those that it just meets leave no other point."""
    just = [side for side in in_sides(d, row) if sum(a * n for a, n in zip(side, x)) == side[d] * q]
    return len(just) >= d and meets(d, q, row, x) == [1] and rank(d, just) == d


class Ordinary(unittest.TestCase):
    def test_one_unknown(self):
        for sides, answer in (([1, 5], [1, 5, 1]), ([-1, 5], [1, -5, 1]), ([1, 5, -1, -2], [2, 2, 1, 5, 1]),
                              ([1, 5, 1, 3], [1, 3, 1]), ([-1, 5, -1, 3], [1, -3, 1]), ([1, 2, -1, -2], [1, 2, 1]),
                              ([3, 2, -2, 1], [2, -1, 2, 2, 3]), ([6, 4], [1, 2, 3]), ([-6, 4], [1, -2, 3]),
                              ([1, 0], [1, 0, 1]), ([-7, 0], [1, 0, 1])):
            self.assertEqual(corners(1, sides), answer, sides)

    def test_two_unknowns(self):
        triangle = [-1, 0, 0, 0, -1, 0, 2, 3, 6]
        self.assertEqual(corners(2, triangle), [3, 0, 0, 1, 0, 2, 1, 3, 0, 1])
        square = [1, 0, 1, -1, 0, 1, 0, 1, 1, 0, -1, 1]
        self.assertEqual(corners(2, square), [4, -1, -1, 1, -1, 1, 1, 1, -1, 1, 1, 1, 1])
        cut_off = square + [1, 1, 1]
        self.assertEqual(corners(2, cut_off), [5, -1, -1, 1, -1, 1, 1, 0, 1, 1, 1, -1, 1, 1, 0, 1])

    def test_three_unknowns(self):
        simplex = [-1, 0, 0, 0, 0, -1, 0, 0, 0, 0, -1, 0, 6, 3, 2, 6]
        self.assertEqual(corners(3, simplex), [4, 0, 0, 0, 1, 0, 0, 3, 1, 0, 2, 0, 1, 1, 0, 0, 1])
        cube = [8] + [n for x in product((-1, 1), repeat=3) for n in x + (1,)]
        self.assertEqual(corners(3, CUBE), cube)

    def test_each_unknown_in_its_place(self):
        self.assertEqual(corners(2, [1, 0, 2, 0, 1, 3]), [1, 2, 3, 1])
        self.assertEqual(corners(2, [0, 1, 3, 1, 0, 2]), [1, 2, 3, 1])
        for order in product(range(3), repeat=3):
            if len(set(order)) == 3:
                sides = [n for k in order for n in [int(i == k) for i in range(3)] + [k + 5]]
                self.assertEqual(corners(3, sides), [1, 5, 6, 7, 1], order)
        # 2x + 3y + 5z = 1, x - y = 4, y + 7z = -2
        self.assertEqual(corners(3, [2, 3, 5, 1, 1, -1, 0, 4, 0, 1, 7, -2]), [1, 27, -13, -1, 10])

    def test_unbounded(self):
        self.assertEqual(corners(2, [-1, 0, 0, 0, -1, 0]), [1, 0, 0, 1])
        self.assertEqual(corners(2, [-1, 0, 0, 0, -1, 0, -1, -1, -1]), [2, 0, 1, 1, 1, 0, 1])
        self.assertEqual(corners(3, [-1, 0, 0, 1, 0, -1, 0, 2, 0, 0, -1, 3]), [1, -1, -2, -3, 1])
        self.assertEqual(corners(3, CUBE[:20]), [4, -1, -1, 1, 1, -1, 1, 1, 1, 1, -1, 1, 1, 1, 1, 1, 1])

    def test_no_corner_though_many_points(self):
        self.assertEqual(corners(2, [1, 0, 1, -1, 0, 1]), [0])
        self.assertEqual(corners(2, [1, 1, 1, -1, -1, -1]), [0])
        self.assertEqual(corners(2, [1, 2, 3, 2, 4, 6, -3, -6, 9]), [0])
        self.assertEqual(corners(3, CUBE[:16]), [0])
        self.assertEqual(corners(3, [1, 1, 0, 5, 0, 1, 1, 5, 1, 2, 1, 5, 1, 0, -1, 5]), [0])

    def test_fractions(self):
        self.assertEqual(corners(2, [2, 0, 1, 0, 3, 1]), [1, 3, 2, 6])
        self.assertEqual(corners(2, [4, 0, 1, 0, 6, 1]), [1, 3, 2, 12])
        self.assertEqual(corners(2, [2, 0, -1, 0, -3, 1]), [1, -3, -2, 6])
        self.assertEqual(corners(3, [2, 0, 0, 1, 0, 3, 0, 2, 0, 0, 5, -4]), [1, 15, 20, -24, 30])
        self.assertEqual(corners(2, [1, 2, 1, 2, -1, 1, -1, 0, 1]), [3, -1, -3, 1, -1, 1, 1, 3, 1, 5])

    def test_lowest_terms(self):
        self.assertEqual(corners(1, [10, 4]), [1, 2, 5])
        self.assertEqual(corners(1, [-1000, 1000]), [1, -1, 1])
        self.assertEqual(corners(1, [-1000, 0]), [1, 0, 1])
        self.assertEqual(corners(2, [6, 0, 4, 0, 9, 6]), [1, 2, 2, 3])
        self.assertEqual(corners(2, [6, 0, 4, 0, 9, 0]), [1, 2, 0, 3])
        self.assertEqual(corners(2, [7, 0, 0, 0, -9, 0]), [1, 0, 0, 1])
        self.assertEqual(corners(3, [2, 0, 0, 4, 0, 2, 0, 6, 0, 0, 2, 8]), [1, 2, 3, 4, 1])
        # Two of the numbers may have something in common, as long as not all have.
        self.assertEqual(corners(2, [3, 0, 2, 0, 2, 1]), [1, 4, 3, 6])

    def test_order_hangs_on_worth(self):
        self.assertEqual(corners(1, [2, 1, -5, -2]), [2, 2, 5, 1, 2])
        self.assertEqual(corners(1, [-2, 1, 5, -2]), [2, -1, 2, -2, 5])
        self.assertEqual(corners(1, [3, 100, -1, -33]), [2, 33, 1, 100, 3])
        # x(0) is 1/2 twice, told as 1/2 and 3/6: then x(1) tells, which is 1/3 and 1.
        self.assertEqual(corners(2, [2, 0, 1, 0, -3, -1, 0, 1, 1]), [2, 3, 2, 6, 1, 2, 2])
        # x(0) and x(1) the same, with unlike lower numbers.
        self.assertEqual(corners(3, [2, 0, 0, 1, 0, 2, 0, 1, 0, 0, 7, 1, 0, 0, -1, 0]),
                         [2, 1, 1, 0, 2, 7, 7, 2, 14])
        self.assertEqual(corners(3, [2, 0, 0, 1, 0, 2, 0, 1, 0, 0, -7, 1, 0, 0, 1, 0]),
                         [2, 7, 7, -2, 14, 1, 1, 0, 2])

    def test_more_sides_than_needed(self):
        pyramid = [0, 0, -1, 0, 1, 0, 1, 1, -1, 0, 1, 1, 0, 1, 1, 1, 0, -1, 1, 1]
        top_and_base = [5, -1, -1, 0, 1, -1, 1, 0, 1, 0, 0, 1, 1, 1, -1, 0, 1, 1, 1, 0, 1]
        self.assertEqual(corners(3, pyramid), top_and_base)
        self.assertEqual(corners(2, [1, 0, 0, 0, 1, 0, 1, 1, 0, 2, 1, 0, 1, 2, 0]), [1, 0, 0, 1])
        self.assertEqual(corners(1, [1, 2, 2, 4, 3, 6, -1, -2]), [1, 2, 1])

    def test_the_same_side_twice(self):
        self.assertEqual(corners(1, [1, 5, 1, 5]), [1, 5, 1])
        self.assertEqual(corners(1, [1, 5, 2, 10]), [1, 5, 1])
        self.assertEqual(corners(2, [1, 0, 1, 1, 0, 1]), [0])
        self.assertEqual(corners(2, [1, 0, 1, 1, 0, 1, 0, 1, 1, 0, 1, 1]), [1, 1, 1, 1])
        self.assertEqual(corners(3, CUBE[:12] * 2), [0])
        triangle = [-1, 0, 0, 0, -1, 0, 2, 3, 6]
        self.assertEqual(corners(2, triangle * 2), corners(2, triangle))

    def test_what_is_cut_away_is_no_corner(self):
        self.assertEqual(corners(2, [1, 0, 1, 0, 1, 1, 1, 1, 1]), [2, 0, 1, 1, 1, 0, 1])
        self.assertEqual(corners(2, [1, 0, 1, 0, 1, 1, 1, 1, 2]), [1, 1, 1, 1])
        self.assertEqual(corners(2, [1, 0, 1, 0, 1, 1, 1, 1, 3]), [1, 1, 1, 1])


class Edges(unittest.TestCase):
    def test_no_sides(self):
        for d in (1, 2, 3):
            self.assertEqual(corners(d, []), [0])

    def test_fewer_sides_than_unknowns(self):
        self.assertEqual(corners(2, [1, 1, 1]), [0])
        self.assertEqual(corners(3, [1, 1, 1, 1]), [0])
        self.assertEqual(corners(3, [1, 0, 0, 1, 0, 1, 0, 1]), [0])

    def test_eight_sides_and_nine(self):
        octahedron = [n for signs in product((-1, 1), repeat=3) for n in signs + (1,)]
        self.assertEqual(corners(3, octahedron), [6, -1, 0, 0, 1, 0, -1, 0, 1, 0, 0, -1, 1,
                                                  0, 0, 1, 1, 0, 1, 0, 1, 1, 0, 0, 1])
        self.assertEqual(corners(3, octahedron + [1, 1, 1, 1]), [-1])
        octagon = [2, 1, 3, 1, 2, 3, -1, 2, 3, -2, 1, 3, -2, -1, 3, -1, -2, 3, 1, -2, 3, 2, -1, 3]
        self.assertEqual(corners(2, octagon), [8, -3, 0, 2, -1, -1, 1, -1, 1, 1, 0, -3, 2,
                                               0, 3, 2, 1, -1, 1, 1, 1, 1, 3, 0, 2])
        self.assertEqual(corners(2, octagon + [2, 1, 3]), [-1])
        self.assertEqual(corners(1, [1, 1] * 7 + [-1, 0]), [2, 0, 1, 1, 1])
        self.assertEqual(corners(1, [1, 1] * 9), [-1])

    def test_twelve_corners(self):
        hexagon = [1, 0, 0, 2, -1, 0, 0, 2, 0, 1, 0, 2, 0, -1, 0, 2, 1, 1, 0, 3, -1, -1, 0, 3]
        answer = corners(3, hexagon + [0, 0, 1, 1, 0, 0, -1, 1])
        self.assertEqual(answer[0], 12)
        self.assertEqual(len(answer), 49)
        self.assertEqual(answer[1:9], [-2, -1, -1, 1, -2, -1, 1, 1])
        self.assertEqual(answer[-8:], [2, 1, -1, 1, 2, 1, 1, 1])

    def test_sides_that_no_point_meets(self):
        self.assertEqual(corners(1, [1, 1, -1, -2]), [0])
        self.assertEqual(corners(2, [-1, 0, 0, 0, -1, 0, 1, 1, -1]), [0])
        self.assertEqual(corners(3, CUBE + [1, 1, 1, -4]), [0])

    def test_just_one_point(self):
        self.assertEqual(corners(2, [-1, 0, 0, 0, -1, 0, 1, 1, 0]), [1, 0, 0, 1])
        self.assertEqual(corners(3, CUBE + [1, 1, 1, -3]), [1, -1, -1, -1, 1])

    def test_zero_for_each_unknown(self):
        for d in (1, 2, 3):
            corner = [n for k in range(d) for n in [int(i == k) for i in range(d)] + [4]]
            for b, met in ((0, True), (1, True), (1000, True), (-1, False), (-1000, False)):
                flat = [0] * d + [b]
                self.assertEqual(corners(d, flat), [0], flat)
                self.assertEqual(corners(d, flat * 8), [0], flat)
                answer = [1] + [4] * d + [1] if met else [0]
                self.assertEqual(corners(d, flat + corner), answer, flat)
                self.assertEqual(corners(d, corner + flat), answer, flat)

    def test_numbers_at_their_ends(self):
        self.assertEqual(corners(1, [1000, 999, -999, 1000]), [2, -1000, 999, 999, 1000])
        self.assertEqual(corners(1, [1000, 999, -999, -998]), [2, 998, 999, 999, 1000])
        sides = [1000, 999, 998, 1, -997, 1000, 996, 1, -995, -994, 1000, 1]
        self.assertEqual(corners(3, sides), second_way(3, sides))
        self.assertGreater(corners(3, sides)[4], 1000000)


class SecondWay(unittest.TestCase):
    def check(self, d, sides):
        answer = corners(d, sides)
        self.assertEqual(answer, second_way(d, sides), (d, sides))
        return answer

    def test_all_small_ones_of_one_unknown(self):
        each = list(product((-3, -1, 0, 1, 2), (-2, -1, 0, 1)))
        for three in product(each, repeat=3):
            self.check(1, list(sum(three, ())))

    def test_many(self):
        source = numbers(9)
        seen = [0] * 3
        for turn in range(900):
            d = turn % 3 + 1
            most = (1, 3, 30, 1000)[turn // 3 % 4]
            sides = [drawn(source, -most, most) for _ in range(drawn(source, d, 8) * (d + 1))]
            for at in range(d, len(sides), d + 1):  # b more often above 0, so that points meet them
                sides[at] = abs(sides[at]) if turn % 5 else sides[at]
            seen[min(self.check(d, sides)[0], 2)] += 1
        self.assertGreater(min(seen), 50)

    def test_many_through_one_point(self):
        source = numbers(10)
        for turn in range(300):
            d = turn % 3 + 1
            x = [drawn(source, -5, 5) for _ in range(d)]
            sides = []
            for _ in range(drawn(source, d, 8)):
                side = [drawn(source, -6, 6) for _ in range(d)]
                sides += side + [sum(a * n for a, n in zip(side, x))]
            answer = self.check(d, sides)
            if rank(d, in_sides(d, sides)) == d:
                self.assertEqual(answer, [1] + x + [1], (d, sides))

    def test_by_the_words_at_every_point_of_a_grid(self):
        source = numbers(11)
        seen = 0
        for turn in range(40):
            d = turn % 2 + 2
            sides = []
            for _ in range(drawn(source, d, 6)):
                sides += [drawn(source, -1, 1) for _ in range(d)] + [drawn(source, 0, 1)]
            # With sides of -1, 0 and 1, no number of a corner is further from 0 than these.
            most = 2 if d == 2 else 4
            found = [list(x) + [q] for q in range(1, most + 1) for x in product(range(-most, most + 1), repeat=d)
                     if gcd(q, *x) == 1 and is_corner(d, sides, list(x), q)]
            found.sort(key=lambda point: [Fraction(n, point[d]) for n in point])
            self.assertEqual(in_sides(d, corners(d, sides)[1:]), found, (d, sides))
            seen += len(found)
        self.assertGreater(seen, 60)


if __name__ == "__main__":
    unittest.main()
