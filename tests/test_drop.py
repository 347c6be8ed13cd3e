"""Promise 4, drop, and what the document says ahead of it."""

import unittest
from fractions import Fraction
from itertools import product

from kit import drawn, in_sides, numbers, point_meets
from sidesleft.desk import can, drop


def left(d, k, row):
    """The answer by the promise's words, without the count."""
    sides = in_sides(d, row)
    told = [side for side in sides if side[k] == 0]
    for first, second in product(sides, sides):
        if first[k] > 0 and second[k] < 0:
            told.append([first[i] * abs(second[k]) + second[i] * first[k] for i in range(d + 1)])
    return told


def room_for(d, k, row, point):
    """Whether the point, all of whose numbers but k are told, meets the sides with some number k."""
    low = []
    high = []
    for side in in_sides(d, row):
        rest = side[d] - sum(side[i] * point[i] for i in range(d) if i != k)
        if side[k] == 0 and rest < 0:
            return False
        if side[k] != 0:
            (high if side[k] > 0 else low).append(Fraction(rest) / side[k])
    return not low or not high or max(low) <= min(high)


class Ordinary(unittest.TestCase):
    def test_one_unknown(self):
        self.assertEqual(drop(1, 0, [1, 5, -1, -2]), [1, 0, 3])
        self.assertEqual(drop(1, 0, [-1, -2, 1, 5]), [1, 0, 3])
        self.assertEqual(drop(1, 0, [3, 5, -2, 7]), [1, 0, 31])
        self.assertEqual(drop(1, 0, [-1, 1, 0, 9, 2, 3, 0, -9, -4, 5, 1, 7]),
                         [6, 0, 9, 0, -9, 0, 5, 0, 22, 0, 8, 0, 33])

    def test_two_unknowns(self):
        sides = [2, 3, 5, 0, 1, 7, -3, 1, 4, 1, -1, 6, 0, -2, 8]
        self.assertEqual(drop(2, 0, sides), [4, 0, 1, 7, 0, -2, 8, 0, 11, 23, 0, -2, 22])
        self.assertEqual(drop(2, 1, sides), [6, 5, 0, 23, 4, 0, 34, 1, 0, 13, 0, 0, 22, -2, 0, 10, -6, 0, 16])

    def test_three_unknowns(self):
        sides = [1, 0, 2, 3, -1, 2, 0, 4, 0, -3, -1, 5, 2, 1, 1, 6]
        self.assertEqual(drop(3, 0, sides), [3, 0, -3, -1, 5, 0, 2, 2, 7, 0, 5, 1, 14])
        self.assertEqual(drop(3, 1, sides), [3, 1, 0, 2, 3, -3, 0, -2, 22, 6, 0, 2, 23])
        self.assertEqual(drop(3, 2, sides), [3, -1, 2, 0, 4, 1, -6, 0, 13, 2, -2, 0, 11])

    def test_each_unknown_of_each_d(self):
        # Sides in mixed order, so that it shows which come first: those with 0, then by the one above, then below.
        signs = (-1, 0, 2, -3, 0, 1)
        for d in (1, 2, 3):
            for k in range(d):
                sides = []
                for at, sign in enumerate(signs):
                    sides += [sign if i == k else 3 ** at for i in range(d)] + [at + 1]
                told = drop(d, k, sides)
                self.assertEqual(told[0], 6)
                bs = [2, 5, 3 * 1 + 1 * 2, 3 * 3 + 4 * 2, 6 * 1 + 1 * 1, 6 * 3 + 4 * 1]
                self.assertEqual([side[d] for side in in_sides(d, told[1:])], bs, (d, k))
                ones = [3, 81, 9 * 1 + 1 * 2, 9 * 3 + 27 * 2, 243 * 1 + 1 * 1, 243 * 3 + 27 * 1]
                for i in range(d):
                    self.assertEqual([side[i] for side in in_sides(d, told[1:])], [0] * 6 if i == k else ones, (d, k))

    def test_not_divided_by_what_divides_all(self):
        self.assertEqual(drop(1, 0, [2, 4, -2, 6]), [1, 0, 20])
        self.assertEqual(drop(2, 0, [0, 2, 4]), [1, 0, 2, 4])
        self.assertEqual(drop(2, 1, [10, 5, 0, 10, -5, 0]), [1, 100, 0, 0])

    def test_told_twice_where_it_comes_out_twice(self):
        self.assertEqual(drop(1, 0, [0, 3, 0, 3]), [2, 0, 3, 0, 3])
        self.assertEqual(drop(1, 0, [1, 1, 1, 1, -1, 0]), [2, 0, 1, 0, 1])
        self.assertEqual(drop(2, 0, [1, 1, 1, -1, 1, 1, 1, 1, 1]), [2, 0, 2, 2, 0, 2, 2])
        self.assertEqual(drop(2, 1, [2, 0, 1, 1, 1, 0, 1, -1, 1]), [2, 2, 0, 1, 2, 0, 1])

    def test_what_says_nothing_is_told_too(self):
        self.assertEqual(drop(1, 0, [0, 0]), [1, 0, 0])
        self.assertEqual(drop(1, 0, [0, -4, 1, 1]), [1, 0, -4])
        self.assertEqual(drop(2, 0, [1, 1, 0, -1, -1, 0]), [1, 0, 0, 0])
        self.assertEqual(drop(2, 0, [1, 1, 0, -1, -1, -1]), [1, 0, 0, -1])


class Edges(unittest.TestCase):
    def test_no_sides(self):
        for d in (1, 2, 3):
            for k in range(d):
                self.assertEqual(drop(d, k, []), [0])

    def test_k(self):
        for d in (1, 2, 3):
            for sides in ([], [0] * (d + 1), [1] * (d + 1) + [-1] * (d + 1)):
                for k in (0, d - 1):
                    self.assertNotEqual(drop(d, k, sides), [-1], (d, k))
                for k in (-1, d):
                    self.assertEqual(drop(d, k, sides), [-1], (d, k))

    def test_none_above_or_none_below(self):
        for d in (1, 2, 3):
            for k in range(d):
                for n in (3, -3):
                    side = [n if i == k else 1 for i in range(d)] + [7]
                    flat = [0 if i == k else 1 for i in range(d)] + [8]
                    self.assertEqual(drop(d, k, side), [0])
                    self.assertEqual(drop(d, k, side * 8), [0])
                    self.assertEqual(drop(d, k, side + flat + side), [1] + flat)

    def test_all_have_0(self):
        for d in (1, 2, 3):
            for k in range(d):
                sides = [n for at in range(8) for n in [0 if i == k else at for i in range(d)] + [at * at - 9]]
                self.assertEqual(drop(d, k, sides), [8] + sides)

    def test_four_above_and_four_below(self):
        for d in (1, 2, 3):
            for k in range(d):
                above = [[n if i == k else n * n for i in range(d)] + [5 * n] for n in (1, 2, 3, 4)]
                below = [[-n if i == k else n + 6 for i in range(d)] + [7 - n] for n in (5, 6, 7, 8)]
                for sides in (above + below, below + above, [one for two in zip(below, above) for one in two]):
                    told = [16]
                    for n in (1, 2, 3, 4):
                        for m in (5, 6, 7, 8):
                            told += [0 if i == k else n * n * m + (m + 6) * n for i in range(d)]
                            told += [5 * n * m + (7 - m) * n]
                    self.assertEqual(drop(d, k, sum(sides, [])), told, (d, k))

    def test_eight_sides_and_nine(self):
        for d in (1, 2, 3):
            self.assertEqual(drop(d, 0, [0] * (d + 1) * 8), [8] + [0] * (d + 1) * 8)
            self.assertEqual(drop(d, 0, [0] * (d + 1) * 9), [-1])
            self.assertEqual(drop(d, 0, [1] * (d + 1) * 9), [-1])

    def test_numbers_at_their_ends(self):
        self.assertEqual(drop(1, 0, [1000, 1000, -1000, 1000]), [1, 0, 2000000])
        self.assertEqual(drop(2, 0, [1000, -1000, -1000, -1000, -1000, -1000]), [1, 0, -2000000, -2000000])
        self.assertEqual(drop(3, 2, [1000, -1000, 999, 1000, 1000, 1000, -1000, 1000]),
                         [1, 1999000, -1000, 0, 1999000])


class SecondWay(unittest.TestCase):
    def test_all_small_ones_of_one_unknown(self):
        each = list(product((-2, -1, 0, 1, 3), (-2, 0, 1)))
        for three in product(each, repeat=3):
            sides = list(sum(three, ()))
            told = left(1, 0, sides)
            self.assertEqual(drop(1, 0, sides), [len(told)] + sum(told, []), sides)

    def test_many(self):
        source = numbers(6)
        for turn in range(1500):
            d = turn % 3 + 1
            most = (1, 3, 30, 1000)[turn % 4]
            sides = [drawn(source, -most, most) for _ in range(drawn(source, 0, 8) * (d + 1))]
            for k in range(d):
                told = left(d, k, sides)
                self.assertEqual(drop(d, k, sides), [len(told)] + sum(told, []), (d, k, sides))

    def test_what_is_left_is_what_some_number_k_leaves_room_for(self):
        source = numbers(7)
        seen = {False: 0, True: 0}
        for turn in range(1500):
            d = turn % 2 + 2
            k = drawn(source, 0, d - 1)
            sides = [drawn(source, -4, 4) for _ in range(drawn(source, 1, 6) * (d + 1))]
            point = [Fraction(drawn(source, -6, 6), drawn(source, 1, 3)) for _ in range(d)]
            answer = room_for(d, k, sides, point)
            seen[answer] += 1
            self.assertEqual(point_meets(d, drop(d, k, sides)[1:], point), answer, (d, k, sides, point))
        self.assertGreater(min(seen.values()), 300)

    def test_dropping_changes_nothing_about_whether_they_can_be_met(self):
        source = numbers(8)
        seen = {0: 0, 1: 0}
        for turn in range(900):
            d = turn % 3 + 1
            sides = [drawn(source, -3, 3) for _ in range(drawn(source, d + 1, 5) * (d + 1))]
            for k in range(d):
                many, *told = drop(d, k, sides)
                if many <= 8:
                    answer = can(d, sides)
                    seen[answer[0]] += 1
                    self.assertEqual(can(d, told), answer, (d, k, sides))
        self.assertGreater(min(seen.values()), 150)


if __name__ == "__main__":
    unittest.main()
