"""Promise 3, refutes, and what the document says ahead of it."""

import unittest
from itertools import product

from kit import drawn, in_sides, numbers, some_point
from sidesleft.desk import can, refutes

MOST = 1000000000


def shown(d, row, y):
    """The answer by the promise's words: the sides are laid out as often as y says, and then added up."""
    laid_out = [side for side, times in zip(in_sides(d, row), y) for _ in range(times)]
    *unknowns, b = [sum(side[i] for side in laid_out) for i in range(d + 1)]
    return 1 if b < 0 and unknowns == [0] * d else 0


def found_multipliers(d, row):
    """Multipliers that refute the sides, or None: unknowns are dropped while it's noted what was taken how often."""
    sides = in_sides(d, row)
    noted = [(side, [int(i == at) for i in range(len(sides))]) for at, side in enumerate(sides)]
    for k in range(d):
        left = [one for one in noted if one[0][k] == 0]
        for above, taken in noted:
            for below, taken_too in noted:
                if above[k] > 0 > below[k]:
                    left.append(tuple([n * -below[k] + m * above[k] for n, m in zip(one, two)]
                                      for one, two in ((above, below), (taken, taken_too))))
        noted = left
    return next((taken for side, taken in noted if side[d] < 0), None)


class Ordinary(unittest.TestCase):
    def test_one_unknown(self):
        sides = [1, 1, -1, -2]  # x at most 1, and at least 2
        for y, answer in (([1, 1], 1), ([2, 2], 1), ([7, 7], 1), ([1, 0], 0), ([0, 1], 0), ([1, 2], 0), ([2, 1], 0)):
            self.assertEqual(refutes(1, sides, y), [answer], y)

    def test_two_unknowns(self):
        sides = [-1, 0, 0, 0, -1, 0, 2, 3, -1]
        for y, answer in (([2, 3, 1], 1), ([4, 6, 2], 1), ([3, 2, 1], 0), ([2, 2, 1], 0), ([1, 3, 1], 0),
                          ([2, 3, 0], 0), ([0, 0, 1], 0), ([2, 3, 2], 0)):
            self.assertEqual(refutes(2, sides, y), [answer], y)

    def test_three_unknowns(self):
        sides = [1, 1, 0, 0, 0, 1, 1, 0, 1, 0, 1, 0, -1, -1, -1, -1]
        for y, answer in (([1, 1, 1, 2], 1), ([3, 3, 3, 6], 1), ([1, 1, 1, 1], 0), ([1, 1, 2, 2], 0),
                          ([2, 1, 1, 2], 0), ([1, 2, 1, 2], 0), ([1, 1, 1, 3], 0)):
            self.assertEqual(refutes(3, sides, y), [answer], y)

    def test_an_unknown_left_over(self):
        # b is below 0 each time, and all unknowns but one are gone.
        for d in (1, 2, 3):
            for k in range(d):
                for n in (1, -1, 1000, -1000):
                    side = [n if i == k else 0 for i in range(d)] + [-5]
                    self.assertEqual(refutes(d, side, [1]), [0], side)
                    back = [-n if i == k else 0 for i in range(d)] + [0]
                    self.assertEqual(refutes(d, side + back, [1, 1]), [1], side)
                    self.assertEqual(refutes(d, side + back, [1, 2]), [0], side)

    def test_each_unknown_must_be_0_by_itself(self):
        self.assertEqual(refutes(2, [1, -1, -1], [1]), [0])
        self.assertEqual(refutes(3, [2, -1, -1, -1], [1]), [0])
        self.assertEqual(refutes(1, [1, -1], [1]), [0])  # nor does b help

    def test_b(self):
        for d in (1, 2, 3):
            one = [1] * d
            other = [-1] * d
            for b in (-1000, -999, -1, 0, 1, 1000):
                self.assertEqual(refutes(d, one + [1000] + other + [b], [1, 1]), [0], (d, b))
            for b, answer in ((-6, 1), (-5, 0), (-4, 0), (5, 0), (-1000, 1)):
                self.assertEqual(refutes(d, one + [5] + other + [b], [1, 1]), [answer], (d, b))
                self.assertEqual(refutes(d, other + [b] + one + [5], [3, 3]), [answer], (d, b))

    def test_each_side_has_its_own_multiplier(self):
        sides = [1, 0, 2, 0, 3, 0, -1, -1]
        self.assertEqual(refutes(1, sides, [1, 2, 3, 14]), [1])
        self.assertEqual(refutes(1, sides, [3, 2, 1, 14]), [0])
        self.assertEqual(refutes(1, sides, [3, 2, 1, 10]), [1])

    def test_what_does_not_refute_though_no_point_meets_them(self):
        sides = [1, 1, -1, -2]
        self.assertEqual(can(1, sides), [0])
        self.assertEqual(refutes(1, sides, [0, 0]), [0])
        self.assertEqual(refutes(1, sides, [5, 4]), [0])


class Edges(unittest.TestCase):
    def test_no_sides(self):
        for d in (1, 2, 3):
            self.assertEqual(refutes(d, [], []), [0])

    def test_eight_sides_and_nine(self):
        for d in (1, 2, 3):
            pair = [1] * d + [0] + [-1] * d + [-1]
            self.assertEqual(refutes(d, pair * 4, [1] * 8), [1])
            self.assertEqual(refutes(d, pair * 4, [0] * 6 + [1] * 2), [1])
            self.assertEqual(refutes(d, pair * 4, [1] * 7 + [2]), [0])
            self.assertEqual(refutes(d, pair * 4 + [0] * (d + 1), [1] * 9), [-1])

    def test_all_multipliers_0(self):
        for d in (1, 2, 3):
            for many in range(1, 9):
                self.assertEqual(refutes(d, ([0] * d + [-1]) * many, [0] * many), [0])
                self.assertEqual(refutes(d, [-1] * (d + 1) * many, [0] * many), [0])

    def test_multipliers_at_their_ends(self):
        for d in (1, 2, 3):
            pair = [1] * d + [0] + [-1] * d + [-1]
            for y, answer in (([MOST, MOST], 1), ([MOST, MOST - 1], 0), ([MOST - 1, MOST - 1], 1), ([0, 0], 0),
                              ([-1, 0], -1), ([0, -1], -1), ([-1, -1], -1), ([MOST + 1, MOST + 1], -1),
                              ([MOST, MOST + 1], -1), ([MOST + 1, 0], -1)):
                self.assertEqual(refutes(d, pair, y), [answer], y)

    def test_great_numbers_together(self):
        # What a number of no more than 53 bits, or 64, would lose.
        sides = [1000, 1000, 1000, 0, -1000, -1000, -1000, -1]
        self.assertEqual(refutes(3, sides * 4, [MOST] * 8), [1])
        self.assertEqual(refutes(3, sides * 4, [MOST] * 7 + [MOST - 1]), [0])
        self.assertEqual(refutes(1, [0, 1000, 0, -999, 0, -1], [MOST - 1, MOST, 0]), [0])
        self.assertEqual(refutes(1, [0, 999, 0, -999, 0, -1], [MOST, MOST, 1]), [1])

    def test_zero_for_each_unknown(self):
        for d in (1, 2, 3):
            for b, answer in ((-1, 1), (-1000, 1), (0, 0), (1, 0), (1000, 0)):
                self.assertEqual(refutes(d, [0] * d + [b], [1]), [answer], (d, b))
                self.assertEqual(refutes(d, [0] * d + [b], [MOST]), [answer], (d, b))
                self.assertEqual(refutes(d, [0] * d + [b], [0]), [0], (d, b))


class SecondWay(unittest.TestCase):
    def test_all_small_ones(self):
        values = (-2, -1, 0, 1, 2)
        for one, other in product(product(values, repeat=2), repeat=2):
            for y in product((0, 1, 2), repeat=2):
                sides = list(one + other)
                self.assertEqual(refutes(1, sides, list(y)), [shown(1, sides, y)], (sides, y))
        for sides in product((-1, 0, 1), repeat=6):
            for y in product((0, 1), repeat=2):
                self.assertEqual(refutes(2, list(sides), list(y)), [shown(2, list(sides), y)], (sides, y))

    def test_multipliers_there_are_whenever_no_point_meets_them(self):
        source = numbers(4)
        seen = {0: 0, 1: 0}
        for turn in range(600):
            d = turn % 3 + 1
            most = (1, 3, 9)[turn // 3 % 3]
            sides = [drawn(source, -most, most) for _ in range(drawn(source, d + 1, 6) * (d + 1))]
            y = found_multipliers(d, sides)
            self.assertEqual(y is None, some_point(d, sides) is not None, (d, sides))
            if y is not None and max(y) <= MOST:
                seen[1] += 1
                self.assertEqual(refutes(d, sides, y), [1], (d, sides, y))
                y[turn % len(y)] += 1
                if any(in_sides(d, sides)[turn % len(y)][:d]):
                    seen[0] += 1
                    self.assertEqual(refutes(d, sides, y), [0], (d, sides, y))
        self.assertGreater(min(seen.values()), 150)

    def test_many(self):
        source = numbers(5)
        for turn in range(1000):
            d = turn % 3 + 1
            many = drawn(source, 0, 8)
            sides = [drawn(source, -2, 2) for _ in range(many * (d + 1))]
            y = [drawn(source, 0, 3) for _ in range(many)]
            self.assertEqual(refutes(d, sides, y), [shown(d, sides, y)], (d, sides, y))
            if refutes(d, sides, y) == [1]:
                self.assertEqual(can(d, sides), [0], (d, sides, y))


if __name__ == "__main__":
    unittest.main()
