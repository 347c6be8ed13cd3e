"""The refusal -1, each of its grounds; and where it ends."""

import unittest

from kit import GREATEST, LOWEST
from sidesleft.desk import best, between, can, corners, drop, gives, meets, parts, refutes

TOO_MUCH = (1001, -1001, 1000000, GREATEST, LOWEST)


class Refusals(unittest.TestCase):
    def each_call(self, d, sides, refused):
        """Sides that are refused, or not, by whatever call they are handed to."""
        point = [0] * min(max(d, 0), 4)
        times = [0] * (len(sides) // (d + 1) if d > 0 else len(sides))
        for told in (can(d, sides), meets(d, 1, sides, point), refutes(d, sides, times), drop(d, 0, sides),
                     corners(d, sides), best(d, sides, point)):
            self.assertEqual(told == [-1], refused, (d, sides))

    def test_d(self):
        for d in (1, 2, 3):
            self.each_call(d, [], False)
            self.each_call(d, [0] * (d + 1), False)
        for d in (0, -1, -2, -3, -4, 4, 5, 7, 59, 60, GREATEST, LOWEST):
            self.each_call(d, [], True)
            self.each_call(d, [0] * min(max(d + 1, 0), 60), True)
            self.each_call(d, [0] * 12, True)

    def test_d_with_a_point_of_any_length(self):
        for d in (0, -1, -2, 4, GREATEST, LOWEST):
            for length in (0, 1, 2, 3, 4, 5, 60):
                self.assertEqual(meets(d, 1, [], [0] * length), [-1], (d, length))
                self.assertEqual(best(d, [], [0] * length), [-1], (d, length))

    def test_d_with_whatever_else_is_handed_in(self):
        for d in (0, -1, -2, 4, GREATEST, LOWEST):
            for length in (0, 1, 2, 3, 4, 5, 60):
                self.assertEqual(refutes(d, [], [0] * length), [-1], (d, length))
                self.assertEqual(refutes(d, [0] * length, [0] * length), [-1], (d, length))
            for k in (0, 1, 3, -1, -2, d, d - 1, d + 1):
                self.assertEqual(drop(d, k, []), [-1], (d, k))
                self.assertEqual(drop(d, k, [0] * 60), [-1], (d, k))

    def test_lengths_of_sides(self):
        for d in (1, 2, 3):
            for length in range(61):
                whole = length % (d + 1) == 0 and length // (d + 1) <= 8
                self.each_call(d, [0] * length, not whole)

    def test_numbers_of_sides(self):
        for d in (1, 2, 3):
            for many in (1, 8):
                for at in range(many * (d + 1)):
                    sides = [0] * (many * (d + 1))
                    for n in (1000, -1000):
                        sides[at] = n
                        self.each_call(d, sides, False)
                    for n in TOO_MUCH:
                        sides[at] = n
                        self.each_call(d, sides, True)

    def test_lengths_of_x(self):
        for d in (1, 2, 3):
            for length in range(61):
                answer = [1] if length == d else [-1]
                self.assertEqual(meets(d, 1, [], [0] * length), answer, (d, length))
                self.assertEqual(meets(d, 1, [0] * (d + 1), [0] * length), answer, (d, length))

    def test_numbers_of_x(self):
        for d in (1, 2, 3):
            for at in range(d):
                x = [0] * d
                for n in (1000, -1000):
                    x[at] = n
                    self.assertEqual(meets(d, 1, [], x), [1], x)
                for n in TOO_MUCH:
                    x[at] = n
                    self.assertEqual(meets(d, 1, [], x), [-1], x)
                    self.assertEqual(meets(d, 1000, [0] * (d + 1), x), [-1], x)

    def test_lengths_of_c(self):
        for d in (1, 2, 3):
            for length in range(61):
                answer = [1, 0, 1] if length == d else [-1]
                self.assertEqual(best(d, [], [0] * length), answer, (d, length))
                self.assertEqual(best(d, [0] * (d + 1), [0] * length), answer, (d, length))

    def test_numbers_of_c(self):
        for d in (1, 2, 3):
            for at in range(d):
                c = [0] * d
                for n in (1000, -1000):
                    c[at] = n
                    self.assertEqual(best(d, [], c), [2], c)
                for n in TOO_MUCH:
                    c[at] = n
                    self.assertEqual(best(d, [], c), [-1], c)
                    self.assertEqual(best(d, [0] * (d + 1), c), [-1], c)
                    self.assertEqual(best(d, [0] * d + [-1], c), [-1], c)

    def test_q(self):
        for d in (1, 2, 3):
            for q in (1, 2, 999, 1000):
                self.assertEqual(meets(d, q, [], [0] * d), [1], q)
            for q in (0, -1, -1000, 1001, GREATEST, LOWEST):
                self.assertEqual(meets(d, q, [], [0] * d), [-1], q)
                self.assertEqual(meets(d, q, [1] * (d + 1), [0] * d), [-1], q)

    def test_k(self):
        for d in (1, 2, 3):
            for sides in ([], [0] * (d + 1), [1] * (d + 1) * 8):
                for k in range(d):
                    self.assertNotEqual(drop(d, k, sides), [-1], (d, k))
                for k in (-1, -2, -3, -4, d, d + 1, 1000, GREATEST, LOWEST):
                    self.assertEqual(drop(d, k, sides), [-1], (d, k))

    def test_lengths_of_y(self):
        for d in (1, 2, 3):
            for many in range(9):
                for length in range(61):
                    answer = [0] if length == many else [-1]
                    self.assertEqual(refutes(d, [1] * (d + 1) * many, [0] * length), answer, (d, many, length))

    def test_y_for_a_part_of_a_side(self):
        for d in (1, 2, 3):
            for length in range(1, 36):
                if length % (d + 1):
                    for many in (length // (d + 1), length // (d + 1) + 1, length):
                        self.assertEqual(refutes(d, [0] * length, [0] * many), [-1], (d, length, many))

    def test_numbers_of_y(self):
        for d in (1, 2, 3):
            for many in (1, 2, 8):
                for at in range(many):
                    y = [0] * many
                    for n in (0, 1, 1001, 999999999, 1000000000):
                        y[at] = n
                        self.assertEqual(refutes(d, [1] * (d + 1) * many, y), [0], y)
                    for n in (-1, -1000, 1000000001, GREATEST, LOWEST):
                        y[at] = n
                        self.assertEqual(refutes(d, [1] * (d + 1) * many, y), [-1], y)

    def test_long_rows_of_great_numbers(self):
        for n in (0, 1, GREATEST, LOWEST):
            for d in (LOWEST, -1, 0, 1, 2, 3, 4, GREATEST):
                self.assertEqual(can(d, [n] * 60), [-1], (d, n))
                self.assertEqual(meets(d, 1, [n] * 60, [n] * 60), [-1], (d, n))
                self.assertEqual(meets(d, 1, [], [n] * 60), [-1], (d, n))
                self.assertEqual(refutes(d, [n] * 60, [n] * 60), [-1], (d, n))
                self.assertEqual(refutes(d, [], [n] * 60), [-1], (d, n))
                self.assertEqual(refutes(d, [n] * 60, []), [-1], (d, n))
                self.assertEqual(drop(d, 0, [n] * 60), [-1], (d, n))
                self.assertEqual(corners(d, [n] * 60), [-1], (d, n))
                self.assertEqual(best(d, [n] * 60, [n] * 60), [-1], (d, n))
                self.assertEqual(best(d, [n] * 60, [0] * min(max(d, 0), 4)), [-1], (d, n))
                self.assertEqual(best(d, [], [n] * 60), [-1], (d, n))

    def test_a_side_that_is_missed_does_not_hide_a_refusal(self):
        self.assertEqual(can(1, [0, -1, 1001, 0]), [-1])
        self.assertEqual(meets(1, 1, [0, -1, 1001, 0], [0]), [-1])
        self.assertEqual(meets(1, 0, [0, -1], [0]), [-1])
        self.assertEqual(refutes(1, [0, -1, 1001, 0], [1, 0]), [-1])
        self.assertEqual(refutes(1, [0, -1, 1, 0], [1, -1]), [-1])
        self.assertEqual(drop(1, 0, [1001, 0]), [-1])
        self.assertEqual(corners(1, [0, -1, 1001, 0]), [-1])
        self.assertEqual(best(1, [0, -1, 1001, 0], [0]), [-1])
        self.assertEqual(best(1, [0, -1], [0, 0]), [-1])


class RefusalsOfPoints(unittest.TestCase):
    def each_call(self, d, points, refused):
        """Points that are refused, or not, by whatever call they are handed to."""
        size = min(max(d, 0), 4)
        weights = [1] * (len(points) // d if d > 0 else len(points))
        for told in (between(d, points, [0] * size), parts(d, points, [0] * size, [0] * (size + 1)),
                     gives(d, points, [0] * size, weights)):
            self.assertEqual(told == [-1], refused, (d, points))

    def test_d(self):
        for d in (1, 2, 3):
            self.each_call(d, [0] * d, False)
        for d in (0, -1, -2, -3, -4, 4, 5, 7, 59, 60, GREATEST, LOWEST):
            self.each_call(d, [], True)
            self.each_call(d, [0] * min(max(d, 0), 60), True)
            self.each_call(d, [0] * 12, True)

    def test_d_with_whatever_else_is_handed_in(self):
        for d in (0, -1, -2, 4, GREATEST, LOWEST):
            for length in (0, 1, 2, 3, 4, 5, 60):
                for many in (0, 1, 4, 12, 60):
                    self.assertEqual(between(d, [0] * many, [0] * length), [-1], (d, length))
                    self.assertEqual(parts(d, [0] * many, [0] * length, [0] * length), [-1], (d, length))
                    self.assertEqual(parts(d, [0] * many, [0] * length, [0] * (length + 1)), [-1], (d, length))
                    self.assertEqual(gives(d, [0] * many, [0] * length, [1] * many), [-1], (d, length))
                    self.assertEqual(gives(d, [0] * many, [0] * length, [1] * length), [-1], (d, length))

    def test_lengths_of_points(self):
        for d in (1, 2, 3):
            for length in range(61):
                whole = length % d == 0 and 1 <= length // d <= 6
                self.each_call(d, [0] * length, not whole)

    def test_numbers_of_points(self):
        for d in (1, 2, 3):
            for many in (1, 6):
                for at in range(many * d):
                    points = [0] * (many * d)
                    for n in (1000, -1000):
                        points[at] = n
                        self.each_call(d, points, False)
                    for n in TOO_MUCH:
                        points[at] = n
                        self.each_call(d, points, True)

    def test_lengths_of_x(self):
        for d in (1, 2, 3):
            for many in (1, 2, 6):
                for length in range(61):
                    points = [0] * (d * many)
                    x = [0] * length
                    self.assertEqual(between(d, points, x), [1] if length == d else [-1], (d, length))
                    self.assertEqual(parts(d, points, x, [0] * (d + 1)), [0] if length == d else [-1], (d, length))
                    self.assertEqual(gives(d, points, x, [1] * many), [1] if length == d else [-1], (d, length))

    def test_numbers_of_x(self):
        for d in (1, 2, 3):
            for at in range(d):
                x = [0] * d
                side = [0] * (d + 1)
                for n in (1000, -1000):
                    x[at] = n
                    side[at] = n
                    self.assertEqual(between(d, [0] * d, x), [0], x)
                    self.assertEqual(parts(d, [0] * d, x, side), [1], x)
                    self.assertEqual(gives(d, [0] * d, x, [1]), [0], x)
                    self.assertEqual(gives(d, x, x, [1]), [1], x)
                for n in TOO_MUCH:
                    x[at] = n
                    self.assertEqual(between(d, [0] * d, x), [-1], x)
                    self.assertEqual(parts(d, [0] * d, x, side), [-1], x)
                    self.assertEqual(gives(d, [0] * d, x, [1]), [-1], x)

    def test_lengths_of_a_side_alone(self):
        for d in (1, 2, 3):
            for many in (1, 2, 6):
                for length in range(61):
                    answer = [0] if length == d + 1 else [-1]
                    self.assertEqual(parts(d, [0] * (d * many), [0] * d, [0] * length), answer, (d, length))

    def test_numbers_of_a_side_alone(self):
        for d in (1, 2, 3):
            for at in range(d + 1):
                side = [0] * (d + 1)
                for n in (1000, -1000):
                    side[at] = n
                    self.assertEqual(parts(d, [0] * d, [0] * d, side), [0], side)
                for n in TOO_MUCH:
                    side[at] = n
                    self.assertEqual(parts(d, [0] * d, [0] * d, side), [-1], side)

    def test_lengths_of_w(self):
        for d in (1, 2, 3):
            for many in range(1, 7):
                for length in range(61):
                    answer = [1] if length == many else [-1]
                    self.assertEqual(gives(d, [0] * (d * many), [0] * d, [1] * length), answer, (d, many, length))

    def test_w_for_a_part_of_a_point(self):
        for d in (2, 3):
            for length in range(1, 21):
                if length % d:
                    for many in (length // d, length // d + 1, length):
                        self.assertEqual(gives(d, [0] * length, [0] * d, [1] * many), [-1], (d, length, many))

    def test_numbers_of_w(self):
        for d in (1, 2, 3):
            for many in (1, 2, 6):
                for at in range(many):
                    w = [1] * many
                    for n in (1, 1001, 999999999, 1000000000):
                        w[at] = n
                        self.assertEqual(gives(d, [5] * d * many, [5] * d, w), [1], w)
                    for n in (-1, -1000, 1000000001, GREATEST, LOWEST):
                        w[at] = n
                        self.assertEqual(gives(d, [5] * d * many, [5] * d, w), [-1], w)

    def test_long_rows_of_great_numbers(self):
        for n in (0, 1, GREATEST, LOWEST):
            long = [n] * 60
            for d in (LOWEST, -1, 0, 1, 2, 3, 4, GREATEST):
                size = min(max(d, 0), 4)
                self.assertEqual(between(d, long, long), [-1], (d, n))
                self.assertEqual(between(d, long, [0] * size), [-1], (d, n))
                self.assertEqual(between(d, [0] * size, long), [-1], (d, n))
                self.assertEqual(parts(d, long, long, long), [-1], (d, n))
                self.assertEqual(parts(d, long, [0] * size, [0] * (size + 1)), [-1], (d, n))
                self.assertEqual(parts(d, [0] * size, long, [0] * (size + 1)), [-1], (d, n))
                self.assertEqual(parts(d, [0] * size, [0] * size, long), [-1], (d, n))
                self.assertEqual(gives(d, long, long, long), [-1], (d, n))
                self.assertEqual(gives(d, long, [0] * size, long), [-1], (d, n))
                self.assertEqual(gives(d, [0] * size, long, [1]), [-1], (d, n))
                self.assertEqual(gives(d, [0] * size, [0] * size, long), [-1], (d, n))

    def test_what_is_settled_does_not_hide_a_refusal(self):
        self.assertEqual(between(1, [0, 1001], [0]), [-1])  # x is one of the points
        self.assertEqual(between(1, [0, 2, 1001], [1]), [-1])
        self.assertEqual(between(2, [0, 0, 0], [0, 0]), [-1])
        self.assertEqual(parts(1, [1, 1001], [0], [1, 0]), [-1])  # a point breaks the side
        self.assertEqual(parts(1, [1], [1001], [1, 0]), [-1])
        self.assertEqual(parts(1, [0], [0], [1001, 0]), [-1])  # x meets the side
        self.assertEqual(parts(1, [0], [0], [0, 1001]), [-1])
        self.assertEqual(gives(1, [0, 1001], [0], [1, 0]), [-1])  # the weight of what's refused is 0
        self.assertEqual(gives(1, [0, 1001], [0], [0, 0]), [-1])  # all weights are 0
        self.assertEqual(gives(1, [0, 1], [1001], [0, 0]), [-1])
        self.assertEqual(gives(1, [0, 0], [0], [2, -1]), [-1])  # they would give it


if __name__ == "__main__":
    unittest.main()
