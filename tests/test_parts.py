"""Promise 8, parts, and what the document says ahead of it."""

import unittest
from itertools import product

from kit import GREATEST, LOWEST, drawn, in_points, numbers, point_meets
from sidesleft.desk import between, parts

TRIANGLE = [0, 0, 6, 0, 0, 6]
FOUR_IN_SPACE = [0, 0, 0, 6, 0, 0, 0, 6, 0, 0, 0, 6]


def second_way(d, points, x, side):
    return [int(all(point_meets(d, side, point) for point in in_points(d, points)) and not point_meets(d, side, x))]


class Ordinary(unittest.TestCase):
    def test_one_unknown(self):
        for side, answer in (([1, 5], 1), ([1, 6], 1), ([1, 7], 0), ([1, 8], 0), ([1, 4], 0), ([1, -9], 0),
                             ([2, 10], 1), ([2, 13], 1), ([2, 14], 0), ([2, 9], 0),
                             ([-1, -2], 0), ([-1, -7], 0), ([-1, -8], 0), ([-1, 0], 0)):
            self.assertEqual(parts(1, [2, 5, 3], [7], side), [answer], side)
        for side, answer in (([-1, -2], 1), ([-1, -1], 1), ([-1, 0], 0), ([-1, -3], 0), ([1, 5], 0), ([1, -1], 0)):
            self.assertEqual(parts(1, [2, 5, 3], [0], side), [answer], side)

    def test_two_unknowns(self):
        for side, answer in (([1, 1, 6], 1),   # the points just meet it, two of them
                             ([1, 1, 7], 1),   # none of them does
                             ([1, 1, 8], 0),   # x just meets it
                             ([1, 1, 9], 0),   # x meets it
                             ([1, 1, 5], 0),   # two of the points break it
                             ([1, 2, 12], 0),  # x just meets it, and so does a point
                             ([1, 0, 4], 0), ([-1, -1, -7], 0), ([-1, -1, 0], 0), ([-1, -1, -9], 0)):
            self.assertEqual(parts(2, TRIANGLE, [4, 4], side), [answer], side)

    def test_three_unknowns(self):
        for side, answer in (([1, 1, 1, 6], 1), ([1, 1, 1, 8], 1), ([1, 1, 1, 9], 0), ([1, 1, 1, 10], 0),
                             ([1, 1, 1, 5], 0), ([2, 1, 1, 11], 0), ([2, 1, 1, 12], 0), ([3, 3, 3, 26], 1),
                             ([0, 0, 1, 6], 0), ([-1, 0, 0, 0], 0), ([-1, -1, -1, 0], 0)):
            self.assertEqual(parts(3, FOUR_IN_SPACE, [3, 3, 3], side), [answer], side)
        for k in range(3):
            x = [-1 if i == k else 1 for i in range(3)]
            for i in range(3):
                side = [-1 if n == i else 0 for n in range(3)] + [0]
                self.assertEqual(parts(3, FOUR_IN_SPACE, x, side), [int(i == k)], (x, side))

    def test_one_point_breaks_the_side(self):
        for d in (1, 2, 3):
            side = [1] + [0] * (d - 1) + [4]
            for many in range(1, 7):
                for at in range(many):
                    for n, answer in ((3, 1), (4, 1), (5, 0), (1000, 0)):
                        points = [m for i in range(many) for m in [n if i == at else 2] + [9] * (d - 1)]
                        self.assertEqual(parts(d, points, [5] + [0] * (d - 1), side), [answer], (points, n))

    def test_what_x_does(self):
        for d in (1, 2, 3):
            for many in (1, 2, 6):
                side = [0] * (d - 1) + [3, 12]
                for n, answer in ((5, 1), (1000, 1), (4, 0), (3, 0), (-1000, 0)):
                    x = [7] * (d - 1) + [n]
                    self.assertEqual(parts(d, [4] * d * many, x, side), [answer], (d, x))
                    self.assertEqual(parts(d, [5] * d * many, x, side), [0], (d, x))

    def test_each_unknown_has_its_own_number(self):
        # 1 * 1 + 10 * 2 + 100 * 3 is 321.
        for b, answer in ((321, 1), (320, 0), (322, 1), (420, 1), (421, 0)):
            self.assertEqual(parts(3, [1, 2, 3], [1, 2, 4], [1, 10, 100, b]), [answer], b)
        for b, answer in ((21, 1), (20, 0), (22, 0)):
            self.assertEqual(parts(2, [1, 2], [2, 2], [1, 10, b]), [answer], b)

    def test_points_have_their_own_numbers(self):
        self.assertEqual(parts(2, [0, 9, 0, 9], [1, 9], [1, 0, 0]), [1])
        self.assertEqual(parts(2, [0, 9, 9, 0], [1, 9], [1, 0, 0]), [0])
        self.assertEqual(parts(3, [0, 9, 9, 0, 9, 9], [1, 9, 9], [1, 0, 0, 0]), [1])
        self.assertEqual(parts(3, [0, 9, 9, 9, 0, 9], [1, 9, 9], [1, 0, 0, 0]), [0])

    def test_x_is_one_of_the_points(self):
        for side in product((-1, 0, 1), (-1, 0, 1), range(-7, 8)):
            for point in in_points(2, TRIANGLE):
                self.assertEqual(parts(2, TRIANGLE, point, list(side)), [0], (point, side))

    def test_the_other_way_round(self):
        self.assertEqual(parts(1, [2], [1], [1, 1]), [0])  # x meets it, and the point doesn't
        self.assertEqual(parts(1, [1], [2], [1, 1]), [1])
        self.assertEqual(parts(1, [2], [3], [1, 1]), [0])  # neither meets it
        self.assertEqual(parts(1, [0], [1], [1, 1]), [0])  # both meet it


class Edges(unittest.TestCase):
    def test_how_many_points(self):
        for d in (1, 2, 3):
            side = [1] * d + [0]
            self.assertEqual(parts(d, [], [1] * d, side), [-1])
            for many in range(1, 7):
                self.assertEqual(parts(d, [0] * d * many, [1] * d, side), [1], (d, many))
                self.assertEqual(parts(d, [0] * d * many, [0] * d, side), [0], (d, many))
                self.assertEqual(parts(d, [1] * d * many, [1] * d, side), [0], (d, many))
            self.assertEqual(parts(d, [0] * d * 7, [1] * d, side), [-1])

    def test_d(self):
        for d in (LOWEST, -3, -2, -1, 0, 4, 5, 6, GREATEST):
            for many in (0, 1, 2, 3, 4, 5, 12):
                size = min(abs(d), 59)
                self.assertEqual(parts(d, [0] * many, [0] * size, [0] * (size + 1)), [-1], (d, many))
                self.assertEqual(parts(d, [0] * many, [], [0]), [-1], (d, many))
                self.assertEqual(parts(d, [0] * many, [], []), [-1], (d, many))

    def test_zero_for_each_unknown(self):
        for d in (1, 2, 3):
            for many in (1, 6):
                for b in (-1000, -1, 0, 1, 1000):
                    self.assertEqual(parts(d, [0] * d * many, [1] * d, [0] * d + [b]), [0], (d, b))
                    self.assertEqual(parts(d, [5] * d * many, [-5] * d, [0] * d + [b]), [0], (d, b))

    def test_numbers_at_their_ends(self):
        for d in (1, 2, 3):
            for n in (1000, -1000):
                self.assertEqual(parts(d, [0] * d, [n] * d, [n] * d + [0]), [1])
                self.assertEqual(parts(d, [-n] * d, [n] * d, [n] * d + [-1000]), [1])
                self.assertEqual(parts(d, [n] * d, [-n] * d, [n] * d + [1000]), [0])
                self.assertEqual(parts(d, [1] + [0] * (d - 1), [2] * d, [1000] * (d + 1)), [1])
                self.assertEqual(parts(d, [1] + [0] * (d - 1), [2] * d, [1000] * d + [999]), [0])
            for n in (1001, -1001):
                self.assertEqual(parts(d, [0] * d, [1] * d, [n] + [1] * d), [-1])
                self.assertEqual(parts(d, [0] * d, [1] * d, [1] * d + [n]), [-1])
                self.assertEqual(parts(d, [0] * d, [1] * (d - 1) + [n], [1] * d + [0]), [-1])
                self.assertEqual(parts(d, [0] * (2 * d - 1) + [n], [1] * d, [1] * d + [0]), [-1])

    def test_just_met_with_great_numbers(self):
        self.assertEqual(parts(3, [1000, -999, -1], [1000, -999, 0], [1000, 1000, 1000, 0]), [1])
        self.assertEqual(parts(3, [1000, -999, 0], [1000, -999, 1], [1000, 1000, 1000, 999]), [0])
        self.assertEqual(parts(3, [1000, -999, 0], [1000, -999, 1], [1000, 1000, 1000, 1000]), [1])
        self.assertEqual(parts(2, [1000, -1000], [999, -1000], [-999, -1000, 1000]), [1])
        self.assertEqual(parts(2, [1000, -1000], [999, -1000], [-999, -1000, 999]), [0])


class SecondWay(unittest.TestCase):
    def test_all_small_ones(self):
        values = range(-2, 3)
        for one, other, x, a, b in product(values, repeat=5):
            answer = [int(a * one <= b and a * other <= b and a * x > b)]
            self.assertEqual(parts(1, [one, other], [x], [a, b]), answer, (one, other, x, a, b))

    def test_many(self):
        source = numbers(17)
        seen = {}
        for turn in range(3000):
            d = turn % 3 + 1
            most = (2, 9, 1000)[turn // 3 % 3]
            points = [drawn(source, -most, most) for _ in range(drawn(source, 1, 6) * d)]
            x = [drawn(source, -most, most) for _ in range(d)]
            side = [drawn(source, -9, 9) for _ in range(d)] if most < 1000 else [drawn(source, -1, 1) for _ in range(d)]
            # b is the most that a makes of a point, or about it, so that both answers come.
            b = max(sum(n * m for n, m in zip(side, point)) for point in in_points(d, points)) + drawn(source, -1, 1)
            side.append(min(max(b, -1000), 1000))
            answer = second_way(d, points, x, side)
            seen[d, answer[0]] = seen.get((d, answer[0]), 0) + 1
            self.assertEqual(parts(d, points, x, side), answer, (d, points, x, side))
        self.assertEqual(len(seen), 6)
        self.assertGreater(min(seen.values()), 100, seen)


class WithBetween(unittest.TestCase):
    """Some side parts x from the points exactly if x is not between them."""

    def some_side_parts(self, d, points, x, most):
        for a in product(range(-most, most + 1), repeat=d):
            b = max(sum(n * m for n, m in zip(a, point)) for point in in_points(d, points))
            if sum(n * m for n, m in zip(a, x)) > b:
                self.assertEqual(parts(d, points, x, list(a) + [b]), [1], (points, x, a))
                self.assertEqual(parts(d, points, x, list(a) + [b - 1]), [0], (points, x, a))
                return True
            self.assertEqual(parts(d, points, x, list(a) + [b]), [0], (points, x, a))
        return False

    def test_on_a_line(self):
        for points in product(range(-2, 3), repeat=3):
            for x in range(-3, 4):
                parted = self.some_side_parts(1, list(points), [x], 1)
                self.assertEqual(between(1, list(points), [x]), [int(not parted)], (points, x))

    def test_in_a_plane_and_in_space(self):
        source = numbers(18)
        seen = {}
        for turn in range(600):
            d = turn % 2 + 2
            points = [drawn(source, -1, 1) for _ in range(drawn(source, 1, 6) * d)]
            x = [drawn(source, -1, 1) for _ in range(d)]
            parted = self.some_side_parts(d, points, x, 3)
            seen[d, parted] = seen.get((d, parted), 0) + 1
            self.assertEqual(between(d, points, x), [int(not parted)], (d, points, x))
        self.assertEqual(len(seen), 4)
        self.assertGreater(min(seen.values()), 20, seen)


if __name__ == "__main__":
    unittest.main()
