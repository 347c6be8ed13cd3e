"""Promise 9, gives, and what the document says ahead of it."""

import unittest
from fractions import Fraction
from itertools import product
from math import lcm

from kit import GREATEST, LOWEST, drawn, in_points, numbers, weights_for
from sidesleft.desk import between, gives

MOST = 1000000000
TRIANGLE = [0, 0, 6, 0, 0, 6]
FOUR_IN_SPACE = [0, 0, 0, 6, 0, 0, 0, 6, 0, 0, 0, 6]


def mean(d, points, w):
    """The weighted mean, fractions; or None where all weights are 0."""
    if sum(w) == 0:
        return None
    return [Fraction(sum(n * point[k] for n, point in zip(w, in_points(d, points))), sum(w)) for k in range(d)]


def second_way(d, points, x, w):
    return [int(mean(d, points, w) == list(x))]


def in_whole_numbers(weights):
    shared = lcm(*[weight.denominator for weight in weights])
    return [int(weight * shared) for weight in weights]


class Ordinary(unittest.TestCase):
    def test_one_unknown(self):
        for w, x, answer in (([1, 1], 4, 1), ([2, 1], 3, 1), ([1, 2], 5, 1), ([1, 0], 1, 1), ([0, 1], 7, 1),
                             ([5, 1], 2, 1), ([1, 5], 6, 1), ([1, 1], 3, 0), ([1, 2], 3, 0), ([2, 1], 5, 0),
                             ([1, 0], 7, 0), ([0, 1], 1, 0), ([1, 3], 5, 0), ([1, 3], 6, 0), ([3, 4], 4, 0)):
            self.assertEqual(gives(1, [1, 7], [x], w), [answer], (w, x))

    def test_two_unknowns(self):
        for w, x, answer in (([1, 1, 1], [2, 2], 1), ([4, 1, 1], [1, 1], 1), ([1, 2, 3], [2, 3], 1),
                             ([1, 3, 2], [3, 2], 1), ([0, 1, 1], [3, 3], 1), ([1, 0, 1], [0, 3], 1),
                             ([1, 1, 0], [3, 0], 1), ([0, 0, 4], [0, 6], 1), ([1, 3, 2], [2, 3], 0),
                             ([1, 2, 3], [2, 2], 0), ([1, 1, 1], [1, 1], 0), ([1, 1, 1], [3, 3], 0)):
            self.assertEqual(gives(2, TRIANGLE, x, w), [answer], (w, x))

    def test_three_unknowns(self):
        for w, x, answer in (([3, 1, 1, 1], [1, 1, 1], 1), ([0, 1, 2, 3], [1, 2, 3], 1), ([0, 3, 2, 1], [3, 2, 1], 1),
                             ([0, 1, 1, 1], [2, 2, 2], 1), ([1, 0, 0, 1], [0, 0, 3], 1), ([2, 0, 0, 0], [0, 0, 0], 1),
                             ([0, 1, 2, 3], [3, 2, 1], 0), ([0, 1, 2, 3], [1, 3, 2], 0), ([1, 1, 1, 1], [1, 1, 1], 0),
                             ([1, 1, 1, 1], [2, 2, 2], 0)):
            self.assertEqual(gives(3, FOUR_IN_SPACE, x, w), [answer], (w, x))

    def test_only_some_of_the_numbers(self):
        for d in (1, 2, 3):
            points = [0] * d + [2] * d
            self.assertEqual(gives(d, points, [1] * d, [3, 3]), [1])
            for k in range(d):
                for n in (-1000, -1, 0, 2, 1000):
                    x = [n if i == k else 1 for i in range(d)]
                    self.assertEqual(gives(d, points, x, [3, 3]), [0], x)

    def test_some_weights_0(self):
        for at in range(6):
            w = [int(i == at) for i in range(6)]
            for d in (1, 2, 3):
                points = [7 * i * i % 11 - k for i in range(6) for k in range(d)]
                for i, point in enumerate(in_points(d, points)):
                    answer = [int(point == in_points(d, points)[at])]
                    self.assertEqual(gives(d, points, point, w), answer, (d, point, w))
                    self.assertEqual(gives(d, points, point, [9 * n for n in w]), answer, (d, point, w))

    def test_all_times_the_same_number(self):
        for times in (1, 2, 3, 10, 999, 1000000, MOST // 3):
            w = [times, 2 * times, 3 * times]
            self.assertEqual(gives(2, TRIANGLE, [2, 3], w), [1], times)
            self.assertEqual(gives(2, TRIANGLE, [3, 2], w), [0], times)
            w[2] -= 1
            self.assertEqual(gives(2, TRIANGLE, [2, 3], w), [0], times)

    def test_the_same_point_twice(self):
        for d in (1, 2, 3):
            for w in product((0, 1, 5), repeat=3):
                same = [4] * d * 3
                self.assertEqual(gives(d, same, [4] * d, list(w)), [int(sum(w) > 0)], w)
                self.assertEqual(gives(d, same, [4] * (d - 1) + [5], list(w)), [0], w)
                self.assertEqual(gives(d, same, [0] * d, list(w)), [0], w)
                twice = [0] * d + [6] * d + [6] * d
                self.assertEqual(gives(d, twice, [3] * d, list(w)), [int(w[0] == w[1] + w[2] > 0)], w)

    def test_each_point_has_its_own_weight(self):
        points = [0, 1, 10, 100]
        self.assertEqual(gives(1, points, [30], [7, 0, 0, 3]), [1])
        self.assertEqual(gives(1, points, [30], [3, 0, 0, 7]), [0])
        self.assertEqual(gives(1, points, [70], [3, 0, 0, 7]), [1])
        self.assertEqual(gives(1, points, [4], [3, 0, 2, 0]), [1])
        self.assertEqual(gives(1, points, [4], [3, 2, 0, 0]), [0])

    def test_below_0(self):
        self.assertEqual(gives(1, [-7, 3], [-2], [1, 1]), [1])
        self.assertEqual(gives(1, [-7, 3], [2], [1, 1]), [0])
        self.assertEqual(gives(2, [-7, 3, 7, -3], [0, 0], [1, 1]), [1])
        self.assertEqual(gives(3, [-7, 3, 1, 7, -3, 1], [0, 0, 1], [2, 2]), [1])
        self.assertEqual(gives(3, [-7, 3, 1, 7, -3, 1], [0, 0, -1], [2, 2]), [0])

    def test_the_mean_is_not_rounded(self):
        for x in range(-2, 3):
            self.assertEqual(gives(1, [0, 1], [x], [1, 1]), [0], x)
            self.assertEqual(gives(1, [0, 1], [x], [1, 999999]), [0], x)
            self.assertEqual(gives(1, [0, -1], [x], [999999, 1]), [0], x)

    def test_a_mean_and_not_a_sum(self):
        self.assertEqual(gives(1, [1], [2], [2]), [0])
        self.assertEqual(gives(1, [1], [1], [2]), [1])
        self.assertEqual(gives(2, [1, 0, 0, 1], [1, 1], [1, 1]), [0])
        self.assertEqual(gives(2, [2, 0, 0, 2], [1, 1], [1, 1]), [1])

    def test_other_weights_would(self):
        self.assertEqual(between(2, TRIANGLE, [2, 2]), [1])
        self.assertEqual(gives(2, TRIANGLE, [2, 2], [1, 1, 2]), [0])
        self.assertEqual(gives(2, TRIANGLE, [4, 4], [1, 1, 1]), [0])  # and none give this


class Edges(unittest.TestCase):
    def test_all_weights_0(self):
        for d in (1, 2, 3):
            for many in range(1, 7):
                for n in (0, 1, -1000):
                    for x in (0, 1, -1000):
                        self.assertEqual(gives(d, [n] * d * many, [x] * d, [0] * many), [0], (d, many, n, x))

    def test_weights_at_their_ends(self):
        for d in (1, 2, 3):
            points = [-5] * d + [5] * d
            for w, answer in (([0, 0], 0), ([0, 1], 0), ([1, 0], 0), ([1, 1], 1), ([MOST, MOST], 1),
                              ([MOST, MOST - 1], 0), ([MOST - 1, MOST - 1], 1), ([MOST, 1], 0), ([MOST, 0], 0),
                              ([-1, -1], -1), ([-1, 0], -1), ([0, -1], -1), ([MOST + 1, MOST + 1], -1),
                              ([MOST + 1, 0], -1), ([0, MOST + 1], -1), ([GREATEST, GREATEST], -1),
                              ([LOWEST, LOWEST], -1)):
                self.assertEqual(gives(d, points, [0] * d, w), [answer], (d, w))
            self.assertEqual(gives(d, points, [5] * d, [0, MOST]), [1])
            self.assertEqual(gives(d, points, [5] * d, [1, MOST]), [0])

    def test_great_weights_and_great_numbers(self):
        # What a number of no more than 53 bits would lose: off by 1 in what is added up to some 10 ** 12 and more.
        ends = [1000, 1000, 1000, -1000, -1000, -1000] * 3
        self.assertEqual(gives(3, ends, [0, 0, 0], [MOST] * 6), [1])
        self.assertEqual(gives(3, ends, [0, 0, 0], [MOST] * 5 + [MOST - 1]), [0])
        self.assertEqual(gives(1, [0, 1000], [1], [999 * 1001001, 1001001]), [1])
        self.assertEqual(gives(1, [0, 1000], [1], [999 * 1001001 + 1, 1001001]), [0])
        self.assertEqual(gives(1, [-1000, 999], [-999], [1998 * 500500, 500500]), [1])
        self.assertEqual(gives(1, [-1000, 999], [-999], [1998 * 500500, 500501]), [0])
        self.assertEqual(gives(1, [1000, 999], [1000], [MOST, 1]), [0])
        self.assertEqual(gives(1, [1000, 999], [1000], [MOST, 0]), [1])

    def test_how_many_points(self):
        for d in (1, 2, 3):
            self.assertEqual(gives(d, [], [0] * d, []), [-1])
            self.assertEqual(gives(d, [], [0] * d, [1]), [-1])
            for many in range(1, 7):
                self.assertEqual(gives(d, [3] * d * many, [3] * d, [1] * many), [1], (d, many))
                self.assertEqual(gives(d, [3] * d * many, [2] * d, [1] * many), [0], (d, many))
            self.assertEqual(gives(d, [3] * d * 7, [3] * d, [1] * 7), [-1])
            self.assertEqual(gives(d, [3] * d * 7, [3] * d, [1] * 6), [-1])

    def test_the_sixth_point_counts(self):
        for at in range(6):
            points = [6 if i == at else 0 for i in range(6)]
            self.assertEqual(gives(1, points, [1], [1] * 6), [1], points)
            self.assertEqual(gives(3, [n for p in points for n in (p, 1, -p)], [1, 1, -1], [1] * 6), [1], points)
            self.assertEqual(gives(1, points, [1], [0 if i == at else 1 for i in range(6)]), [0], points)

    def test_d(self):
        for d in (LOWEST, -3, -2, -1, 0, 4, 5, 6, GREATEST):
            for many in (0, 1, 2, 3, 4, 5, 12):
                for weights in (0, 1, many):
                    self.assertEqual(gives(d, [0] * many, [0] * min(abs(d), 60), [1] * weights), [-1], (d, many))
                    self.assertEqual(gives(d, [0] * many, [], [1] * weights), [-1], (d, many))

    def test_numbers_at_their_ends(self):
        for d in (1, 2, 3):
            ends = [-1000] * d + [1000] * d
            for x, w in ((0, [1, 1]), (1000, [0, 1]), (-1000, [1, 0]), (999, [1, 1999]), (-999, [1999, 1])):
                self.assertEqual(gives(d, ends, [x] * d, w), [1], (d, x))
                self.assertEqual(gives(d, ends, [x] * d, [w[0] + 1, w[1] + 1]), [int(x == 0)], (d, x))
            for n in (1001, -1001):
                self.assertEqual(gives(d, ends, [n] + [0] * (d - 1), [1, 1]), [-1])
                self.assertEqual(gives(d, [n] + ends[1:], [0] * d, [1, 1]), [-1])
                self.assertEqual(gives(d, ends[:-1] + [n], [0] * d, [1, 1]), [-1])


class SecondWay(unittest.TestCase):
    def test_all_small_ones(self):
        for points in product((-2, 0, 1, 2), repeat=3):
            for w in product(range(4), repeat=3):
                for x in range(-2, 3):
                    answer = second_way(1, points, [x], w)
                    self.assertEqual(gives(1, list(points), [x], list(w)), answer, (points, x, w))

    def test_many(self):
        source = numbers(19)
        seen = {}
        for turn in range(2000):
            d = turn % 3 + 1
            most = (1, 4, 80)[turn // 3 % 3]
            many = drawn(source, 1, 6)
            w = [drawn(source, 0, 2) for _ in range(many)]
            # All points are times what the weights add up to, so that their mean is in whole numbers.
            points = [max(sum(w), 1) * drawn(source, -most, most) for _ in range(many * d)]
            x = [int(n) for n in mean(d, points, w) or points[:d]]
            x[turn % d] += drawn(source, 0, 1)
            answer = second_way(d, points, x, w)
            seen[d, answer[0]] = seen.get((d, answer[0]), 0) + 1
            self.assertEqual(gives(d, points, x, w), answer, (d, points, x, w))
            if answer == [1]:
                self.assertEqual(between(d, points, x), [1], (d, points, x))
        self.assertEqual(len(seen), 6)
        self.assertGreater(min(seen.values()), 200, seen)


class WithBetween(unittest.TestCase):
    """Weights that give x there are exactly if x is between the points."""

    def test_weights_there_are_whenever_it_is_between(self):
        source = numbers(20)
        seen = {0: 0, 1: 0}
        for turn in range(900):
            d = turn % 3 + 1
            most = (2, 9, 300)[turn // 3 % 3]
            many = drawn(source, 1, 6)
            points = [drawn(source, -most, most) for _ in range(many * d)]
            x = [drawn(source, -most // 4, most // 4) for _ in range(d)]
            weights = weights_for(d, points, x)
            self.assertEqual(between(d, points, x), [int(weights is not None)], (d, points, x))
            if weights is None:
                continue
            w = in_whole_numbers(weights)
            self.assertLessEqual(max(w), MOST)
            self.assertEqual(gives(d, points, x, w), [1], (d, points, x, w))
            at = turn % many
            w[at] += 1  # more of one point moves the mean, if it's not there already
            moved = in_points(d, points)[at] != x
            seen[int(moved)] += 1
            self.assertEqual(gives(d, points, x, w), [int(not moved)], (d, points, x, w))
        self.assertGreater(min(seen.values()), 10, seen)

    def test_weights_far_from_one_another(self):
        # The point that a plane through three others misses by as little as can be: see test_between.py.
        points = [-997, 1000, 1000, 1000, 1000, -1000, -1000, -1000, -999, -1000, 1000, -1000]
        x = [-555, -333, -777]
        w = in_whole_numbers(weights_for(3, points, x))
        self.assertGreater(max(w), MOST)
        self.assertEqual(between(3, points, x), [1])
        self.assertEqual(gives(3, points, x, w), [-1])
        points = [-100, -100, 100, 99, -100, 100]
        w = in_whole_numbers(weights_for(2, points, [-99, -99]))
        self.assertEqual(gives(2, points, [-99, -99], w), [1])
        for at in range(3):
            for more in (1, -1):
                if w[at] + more >= 0:
                    other = [n + more if i == at else n for i, n in enumerate(w)]
                    self.assertEqual(gives(2, points, [-99, -99], other), [0], other)


if __name__ == "__main__":
    unittest.main()
