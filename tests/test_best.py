"""Promise 6, best, and what the document says ahead of it."""

import unittest
from fractions import Fraction
from itertools import product

from kit import drawn, in_sides, numbers, points_on, some_point
from sidesleft.desk import best, can, corners

CUBE = [1, 0, 0, 1, -1, 0, 0, 1, 0, 1, 0, 1, 0, -1, 0, 1, 0, 0, 1, 1, 0, 0, -1, 1]
TRIANGLE = [-1, 0, 0, 0, -1, 0, 2, 3, 6]


def worth(c, point):
    return sum((n * p for n, p in zip(c, point)), Fraction(0))


def second_way(d, row, c):
    """There is no most if it can be gone on and on to where c makes more; else it's at a least face."""
    if some_point(d, row) is None:
        return [0]
    ways_on = [n for side in in_sides(d, row) for n in side[:d] + [0]]
    if some_point(d, ways_on + [-n for n in c] + [-1]) is not None:
        return [2]
    most = max(worth(c, point) for point in points_on(d, row, range(d + 1)))
    return [1, most.numerator, most.denominator]


class Ordinary(unittest.TestCase):
    def test_one_unknown(self):
        for sides, c, answer in (([1, 5], 1, [1, 5, 1]), ([1, 5], 3, [1, 15, 1]), ([1, 5], -1, [2]),
                                 ([-1, 5], 1, [2]), ([-1, 5], -1, [1, 5, 1]), ([1, 5, -1, -2], -1, [1, -2, 1]),
                                 ([1, 5, 1, 3], 2, [1, 6, 1]), ([3, 2], 1, [1, 2, 3]), ([3, 2], 6, [1, 4, 1]),
                                 ([3, -2], 5, [1, -10, 3]), ([1, 1, -1, -2], 1, [0])):
            self.assertEqual(best(1, sides, [c]), answer, (sides, c))

    def test_two_unknowns(self):
        for c, answer in (([1, 0], 3), ([0, 1], 2), ([1, 1], 3), ([1, 2], 4), ([2, 3], 6), ([-1, -1], 0),
                          ([-1, 2], 4), ([5, -4], 15), ([-3, 0], 0), ([100, 200], 400)):
            self.assertEqual(best(2, TRIANGLE, c), [1, answer, 1], c)

    def test_three_unknowns(self):
        for c in product((-7, 0, 2), (-1, 0, 3), (-5, 0, 11)):
            self.assertEqual(best(3, CUBE, list(c)), [1, sum(abs(n) for n in c), 1], c)

    def test_each_unknown_has_its_own_number(self):
        self.assertEqual(best(3, [1, 0, 0, 1, 0, 1, 0, 2, 0, 0, 1, 3], [1, 10, 100]), [1, 321, 1])
        self.assertEqual(best(2, [1, 0, 1, 0, 1, 2], [1, 10]), [1, 21, 1])

    def test_at_many_points(self):
        self.assertEqual(best(2, TRIANGLE, [4, 6]), [1, 12, 1])
        self.assertEqual(best(2, TRIANGLE, [0, -1]), [1, 0, 1])
        self.assertEqual(best(3, CUBE, [0, 0, 4]), [1, 4, 1])
        self.assertEqual(best(2, [1, 0, 5, 0, -1, 0], [1, 0]), [1, 5, 1])  # a side without an end

    def test_fractions(self):
        self.assertEqual(best(2, [2, 0, 1, 0, 3, 1], [1, 1]), [1, 5, 6])
        self.assertEqual(best(2, [2, 0, 1, 0, 3, 1], [1, -1]), [2])
        self.assertEqual(best(2, [2, 1, 3, 1, 3, 4], [1, 1]), [1, 2, 1])
        self.assertEqual(best(2, [2, 1, 3, 1, 3, 5], [1, 1]), [1, 11, 5])
        self.assertEqual(best(2, [2, 0, -1, 0, 3, -1], [1, 1]), [1, -5, 6])
        self.assertEqual(best(3, [2, 0, 0, 1, 0, 3, 0, 1, 0, 0, 5, 1], [1, 1, 1]), [1, 31, 30])

    def test_lowest_terms(self):
        self.assertEqual(best(1, [6, 4], [1]), [1, 2, 3])
        self.assertEqual(best(1, [6, 4], [3]), [1, 2, 1])
        self.assertEqual(best(1, [6, -4], [9]), [1, -6, 1])
        self.assertEqual(best(1, [1000, 500], [1]), [1, 1, 2])
        self.assertEqual(best(2, [2, 0, 1, 0, 2, 1], [1, 1]), [1, 1, 1])
        self.assertEqual(best(1, [7, 0], [3]), [1, 0, 1])

    def test_0_or_below(self):
        self.assertEqual(best(1, [1, 0], [1]), [1, 0, 1])
        self.assertEqual(best(1, [1, -4], [1]), [1, -4, 1])
        self.assertEqual(best(1, [3, -4], [1]), [1, -4, 3])
        self.assertEqual(best(2, [-1, 0, 0, 0, -1, 0], [-1, -1]), [1, 0, 1])
        self.assertEqual(best(2, [-1, 0, -2, 0, -1, -3], [-1, -1]), [1, -5, 1])

    def test_least_of_fractions_by_their_worth(self):
        # The upper number or the lower one alone would say otherwise.
        self.assertEqual(best(1, [2, 3, 3, 4], [1]), [1, 4, 3])
        self.assertEqual(best(1, [3, 4, 2, 3], [1]), [1, 4, 3])
        self.assertEqual(best(1, [2, -3, 3, -4], [1]), [1, -3, 2])
        self.assertEqual(best(1, [1, 2, 10, 19], [1]), [1, 19, 10])
        self.assertEqual(best(1, [1, 1, 10, 19], [1]), [1, 1, 1])

    def test_a_most_though_no_corner(self):
        for d, sides, c, answer in ((2, [1, 0, 5], [1, 0], [1, 5, 1]), (2, [1, 0, 5], [0, 1], [2]),
                                    (2, [1, 1, 3], [2, 2], [1, 6, 1]), (2, [1, 1, 3], [2, 1], [2]),
                                    (2, [1, 1, 3], [-1, -1], [2]), (2, [2, 4, 3], [3, 6], [1, 9, 2]),
                                    (3, [1, 2, 3, 4, -1, -2, -3, -1], [2, 4, 6], [1, 8, 1]),
                                    (3, [1, 2, 3, 4, -1, -2, -3, -1], [-2, -4, -6], [1, -2, 1]),
                                    (3, [1, 2, 3, 4, -1, -2, -3, -1], [2, 4, 5], [2]),
                                    (3, [1, 1, 0, 1, 0, 1, 1, 1], [1, 2, 1], [1, 2, 1]),
                                    (3, [1, 1, 0, 1, 0, 1, 1, 1], [1, 0, -1], [2])):
            self.assertEqual(corners(d, sides), [0], sides)
            self.assertEqual(best(d, sides, c), answer, (sides, c))

    def test_unbounded_sides_with_a_most_all_the_same(self):
        wedge = [-1, 0, 0, 0, -1, 0]
        self.assertEqual(best(2, wedge, [-1, 0]), [1, 0, 1])
        self.assertEqual(best(2, wedge, [-1, -5]), [1, 0, 1])
        self.assertEqual(best(2, wedge, [-1, 1]), [2])
        self.assertEqual(best(2, wedge, [1, -1000]), [2])
        self.assertEqual(best(2, wedge + [1, -1, 1], [1, -1]), [1, 1, 1])
        self.assertEqual(best(2, wedge + [1, -1, 1], [2, -1]), [2])

    def test_no_point_comes_before_no_most(self):
        self.assertEqual(best(2, [1, 0, 1, -1, 0, -2], [0, 1]), [0])
        self.assertEqual(best(2, [1, 0, 1, -1, 0, -2], [1, 0]), [0])
        self.assertEqual(best(3, [0, 0, 0, -1], [1, 1, 1]), [0])


class Edges(unittest.TestCase):
    def test_no_sides(self):
        for d in (1, 2, 3):
            self.assertEqual(best(d, [], [0] * d), [1, 0, 1])
            for c in product((-1000, -1, 0, 1, 1000), repeat=d):
                if any(c):
                    self.assertEqual(best(d, [], list(c)), [2], c)

    def test_c_all_0(self):
        for d in (1, 2, 3):
            self.assertEqual(best(d, [1] * (d + 1), [0] * d), [1, 0, 1])
            self.assertEqual(best(d, [1] * d + [-1000], [0] * d), [1, 0, 1])
            self.assertEqual(best(d, [1] * d + [1] + [-1] * d + [-2], [0] * d), [0])

    def test_eight_sides_and_nine(self):
        octahedron = [n for signs in product((-1, 1), repeat=3) for n in signs + (1,)]
        self.assertEqual(best(3, octahedron, [3, -7, 5]), [1, 7, 1])
        self.assertEqual(best(3, octahedron[:-1] + [0], [1, 1, 1]), [1, 0, 1])
        self.assertEqual(best(3, octahedron[:-1] + [-1], [1, 1, 1]), [1, -1, 1])
        self.assertEqual(best(3, octahedron[:-1] + [-2], [1, 1, 1]), [0])
        self.assertEqual(best(3, octahedron + [1, 1, 1, 1], [3, -7, 5]), [-1])
        for d in (1, 2, 3):
            side = [1] + [0] * (d - 1) + [5]
            self.assertEqual(best(d, side * 8, side[:d]), [1, 5, 1])
            self.assertEqual(best(d, side * 9, side[:d]), [-1])

    def test_fewer_sides_than_unknowns(self):
        self.assertEqual(best(3, [1, 1, 1, 1], [1, 1, 1]), [1, 1, 1])
        self.assertEqual(best(3, [1, 1, 1, 1], [1, 1, 0]), [2])
        self.assertEqual(best(2, [0, 2, 3], [0, 1]), [1, 3, 2])

    def test_sides_that_no_point_meets(self):
        self.assertEqual(best(1, [1, 1, -1, -2], [0]), [0])
        self.assertEqual(best(2, [-1, 0, 0, 0, -1, 0, 1, 1, -1], [1, 1]), [0])
        self.assertEqual(best(3, CUBE + [1, 1, 1, -4], [1, 2, 3]), [0])

    def test_zero_for_each_unknown(self):
        for d in (1, 2, 3):
            for b, met in ((0, True), (1, True), (1000, True), (-1, False), (-1000, False)):
                flat = [0] * d + [b]
                side = [2] * d + [3]
                self.assertEqual(best(d, flat, [0] * d), [1, 0, 1] if met else [0], flat)
                self.assertEqual(best(d, flat, [1] * d), [2] if met else [0], flat)
                self.assertEqual(best(d, flat + side, [1] * d), [1, 3, 2] if met else [0], flat)
                self.assertEqual(best(d, side + flat, [-1] * d), [2] if met else [0], flat)

    def test_numbers_at_their_ends(self):
        self.assertEqual(best(1, [1, 1000], [1000]), [1, 1000000, 1])
        self.assertEqual(best(1, [-1, 1000], [-1000]), [1, 1000000, 1])
        self.assertEqual(best(1, [999, 1000], [1000]), [1, 1000000, 999])
        self.assertEqual(best(1, [-999, -1000], [-1000]), [1, -1000000, 999])
        # x at most 1000y, y at most 1000z, z at most 1000
        chain = [1, -1000, 0, 0, 0, 1, -1000, 0, 0, 0, 1, 1000]
        self.assertEqual(best(3, chain, [1000, 0, 0]), [1, 1000000000000, 1])
        self.assertEqual(best(3, chain, [1000, -1000, 0]), [1, 999000000000, 1])
        self.assertEqual(best(3, chain, [-1, 0, 0]), [2])


class SecondWay(unittest.TestCase):
    def check(self, d, sides, c):
        answer = best(d, sides, c)
        self.assertEqual(answer, second_way(d, sides, c), (d, sides, c))
        return answer[0]

    def test_all_small_ones_of_one_unknown(self):
        each = list(product((-2, -1, 0, 1, 3), (-2, -1, 0, 1)))
        for one, two in product(each, repeat=2):
            for c in (-3, -1, 0, 2):
                self.check(1, list(one + two), [c])

    def test_many(self):
        source = numbers(12)
        seen = {0: 0, 1: 0, 2: 0}
        for turn in range(900):
            d = turn % 3 + 1
            most = (1, 3, 30, 1000)[turn // 3 % 4]
            sides = [drawn(source, -most, most) for _ in range(drawn(source, 0, 8) * (d + 1))]
            c = [drawn(source, -most, most) for _ in range(d)]
            seen[self.check(d, sides, c)] += 1
        self.assertGreater(min(seen.values()), 150)

    def test_many_without_corners(self):
        # What c makes is bounded, if at all, by sides that say nothing else.
        source = numbers(13)
        seen = {0: 0, 1: 0, 2: 0}
        for turn in range(600):
            d = turn % 2 + 2
            ways = [[drawn(source, -3, 3) for _ in range(d)] for _ in range(d - 1)]
            mixed = []
            for _ in range(drawn(source, 1, 5) + 1):
                times = [drawn(source, -2, 2) for _ in ways]
                mixed.append([sum(t * way[i] for t, way in zip(times, ways)) for i in range(d)])
            *heads, c = mixed
            sides = [n for head in heads for n in head + [drawn(source, -2, 9)]]
            self.assertEqual(corners(d, sides), [0])
            seen[self.check(d, sides, c)] += 1
        self.assertGreater(min(seen.values()), 40)

    def test_the_most_is_at_a_corner_where_there_is_one(self):
        source = numbers(14)
        seen = 0
        for turn in range(400):
            d = turn % 3 + 1
            sides = [drawn(source, -9, 9) for _ in range(drawn(source, d + 1, 7) * (d + 1))]
            c = [drawn(source, -9, 9) for _ in range(d)]
            points = in_sides(d, corners(d, sides)[1:])
            answer = best(d, sides, c)
            self.assertEqual(answer == [0], can(d, sides) == [0], (d, sides))
            if points and answer[0] == 1:
                seen += 1
                worths = [worth(c, [Fraction(n, point[d]) for n in point[:d]]) for point in points]
                self.assertEqual(Fraction(answer[1], answer[2]), max(worths), (d, sides, c))
        self.assertGreater(seen, 80)


if __name__ == "__main__":
    unittest.main()
