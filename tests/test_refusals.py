"""The refusal -1, each of its grounds; and where it ends."""

import unittest

from kit import GREATEST, LOWEST
from sidesleft.desk import can, meets

TOO_MUCH = (1001, -1001, 1000000, GREATEST, LOWEST)


class Refusals(unittest.TestCase):
    def both(self, d, sides, refused):
        """Sides that are refused, or not, by whatever call they are handed to."""
        point = [0] * min(max(d, 0), 4)
        answers = ([-1],) if refused else ([0], [1])
        self.assertIn(can(d, sides), answers, (d, sides))
        self.assertIn(meets(d, 1, sides, point), answers, (d, sides))

    def test_d(self):
        for d in (1, 2, 3):
            self.both(d, [], False)
            self.both(d, [0] * (d + 1), False)
        for d in (0, -1, -2, -3, -4, 4, 5, 7, 59, 60, GREATEST, LOWEST):
            self.both(d, [], True)
            self.both(d, [0] * min(max(d + 1, 0), 60), True)
            self.both(d, [0] * 12, True)

    def test_d_with_a_point_of_any_length(self):
        for d in (0, -1, -2, 4, GREATEST, LOWEST):
            for length in (0, 1, 2, 3, 4, 5, 60):
                self.assertEqual(meets(d, 1, [], [0] * length), [-1], (d, length))

    def test_lengths_of_sides(self):
        for d in (1, 2, 3):
            for length in range(61):
                whole = length % (d + 1) == 0 and length // (d + 1) <= 8
                self.both(d, [0] * length, not whole)

    def test_numbers_of_sides(self):
        for d in (1, 2, 3):
            for many in (1, 8):
                for at in range(many * (d + 1)):
                    sides = [0] * (many * (d + 1))
                    for n in (1000, -1000):
                        sides[at] = n
                        self.both(d, sides, False)
                    for n in TOO_MUCH:
                        sides[at] = n
                        self.both(d, sides, True)

    def test_lengths_of_x(self):
        for d in (1, 2, 3):
            for length in range(61):
                answer = [1] if length == d else [-1]
                self.assertEqual(meets(d, 1, [], [0] * length), answer, (d, length))
                self.assertEqual(meets(d, 1, [0] * (d + 1), [0] * length), answer, (d, length))

    def test_numbers_of_x(self):
        for d in (1, 2, 3):
            for at in range(d):
                x = [0] * d
                for n in (1000, -1000):
                    x[at] = n
                    self.assertEqual(meets(d, 1, [], x), [1], x)
                for n in TOO_MUCH:
                    x[at] = n
                    self.assertEqual(meets(d, 1, [], x), [-1], x)
                    self.assertEqual(meets(d, 1000, [0] * (d + 1), x), [-1], x)

    def test_q(self):
        for d in (1, 2, 3):
            for q in (1, 2, 999, 1000):
                self.assertEqual(meets(d, q, [], [0] * d), [1], q)
            for q in (0, -1, -1000, 1001, GREATEST, LOWEST):
                self.assertEqual(meets(d, q, [], [0] * d), [-1], q)
                self.assertEqual(meets(d, q, [1] * (d + 1), [0] * d), [-1], q)

    def test_long_rows_of_great_numbers(self):
        for n in (0, 1, GREATEST, LOWEST):
            for d in (LOWEST, -1, 0, 1, 2, 3, 4, GREATEST):
                self.assertEqual(can(d, [n] * 60), [-1], (d, n))
                self.assertEqual(meets(d, 1, [n] * 60, [n] * 60), [-1], (d, n))
                self.assertEqual(meets(d, 1, [], [n] * 60), [-1], (d, n))

    def test_a_side_that_is_missed_does_not_hide_a_refusal(self):
        self.assertEqual(can(1, [0, -1, 1001, 0]), [-1])
        self.assertEqual(meets(1, 1, [0, -1, 1001, 0], [0]), [-1])
        self.assertEqual(meets(1, 0, [0, -1], [0]), [-1])


if __name__ == "__main__":
    unittest.main()
