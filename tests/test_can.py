"""Promise 2, can, and what the document says ahead of it."""

import unittest
from itertools import combinations, product

from kit import drawn, in_sides, numbers, some_point
from sidesleft.desk import can


class Ordinary(unittest.TestCase):
    def test_one_unknown(self):
        for sides, answer in (([1, 5], 1), ([-1, -5], 1), ([1, 5, -1, -2], 1), ([1, 2, -1, -2], 1),
                              ([1, 1, -1, -2], 0), ([2, 1, -3, -1], 1), ([3, 1, -2, -1], 0),
                              ([2, 1, -2, -1], 1), ([1, 9, 1, 1, -1, -2], 0), ([1, -3, -1, 5, -1, 3], 1)):
            self.assertEqual(can(1, sides), [answer], sides)

    def test_two_unknowns(self):
        triangle = [-1, 0, 0, 0, -1, 0, 1, 1, 1]
        self.assertEqual(can(2, triangle), [1])
        self.assertEqual(can(2, triangle[:8] + [0]), [1])
        self.assertEqual(can(2, triangle[:8] + [-1]), [0])
        self.assertEqual(can(2, [1, 1, 1, -1, -1, -1]), [1])
        self.assertEqual(can(2, [1, 1, 1, -1, -1, -2]), [0])
        self.assertEqual(can(2, [1, 1, 1, 1, -1, -2]), [1])

    def test_three_unknowns(self):
        corner = [-1, 0, 0, 0, 0, -1, 0, 0, 0, 0, -1, 0]
        self.assertEqual(can(3, corner + [1, 2, 3, 1]), [1])
        self.assertEqual(can(3, corner + [1, 2, 3, 0]), [1])
        self.assertEqual(can(3, corner + [1, 2, 3, -1]), [0])
        self.assertEqual(can(3, corner + [1, 2, -3, -1]), [1])
        self.assertEqual(can(3, corner + [1, -2, 3, -1]), [1])
        self.assertEqual(can(3, corner + [-1, 2, 3, -1]), [1])

    def test_points_need_not_be_whole(self):
        self.assertEqual(can(1, [2, 1, -2, -1]), [1])
        self.assertEqual(can(2, [2, 0, 1, -2, 0, -1, 0, 3, 1, 0, -3, -1]), [1])

    def test_points_may_be_below_zero_and_far_away(self):
        self.assertEqual(can(1, [1, -1000]), [1])
        self.assertEqual(can(2, [-1, 1000, -1000, 0, -1, -1000]), [1])
        self.assertEqual(can(3, [-1, 1000, 0, -1000, 0, -1, 1000, -1000, 0, 0, -1, -1000]), [1])

    def test_no_fewer_of_them_show_it(self):
        # All but any one of these can be met, all together can't.
        for d, sides in ((2, [-1, 0, 0, 0, -1, 0, 1, 1, -1]),
                         (2, [2, 1, 0, -1, 1, 0, -1, -3, -1]),
                         (3, [-1, 0, 0, 0, 0, -1, 0, 0, 0, 0, -1, 0, 1, 1, 1, -1]),
                         (3, [1, 1, 0, 0, 0, 1, 1, 0, 1, 0, 1, 0, -1, -1, -1, -1])):
            self.assertEqual(can(d, sides), [0], sides)
            each = in_sides(d, sides)
            for many in range(len(each)):
                for fewer in combinations(each, many):
                    self.assertEqual(can(d, sum(fewer, [])), [1], fewer)

    def test_every_unknown_is_dropped(self):
        for d in (1, 2, 3):
            for k in range(d):
                one = [1 if i == k else 0 for i in range(d)]
                other = [-n for n in one]
                self.assertEqual(can(d, one + [2] + other + [-2]), [1], (d, k))
                self.assertEqual(can(d, one + [2] + other + [-3]), [0], (d, k))


class Edges(unittest.TestCase):
    def test_no_sides(self):
        for d in (1, 2, 3):
            self.assertEqual(can(d, []), [1])

    def test_eight_sides(self):
        cube = [1, 0, 0, 1, -1, 0, 0, 1, 0, 1, 0, 1, 0, -1, 0, 1, 0, 0, 1, 1, 0, 0, -1, 1]
        self.assertEqual(can(3, cube + [1, 1, 1, 3, -1, -1, -1, -3]), [1])
        self.assertEqual(can(3, cube + [1, 1, 1, 4, -1, -1, -1, -4]), [0])
        self.assertEqual(can(2, [1, 0, 1] * 7 + [-1, 0, -1]), [1])
        self.assertEqual(can(2, [1, 0, 1] * 7 + [-1, 0, -2]), [0])
        self.assertEqual(can(1, [1, 1] * 7 + [-1, -1]), [1])
        self.assertEqual(can(1, [1, 1] * 7 + [-1, -2]), [0])

    def test_zero_for_each_unknown(self):
        for d in (1, 2, 3):
            for b, answer in ((0, 1), (1, 1), (1000, 1), (-1, 0), (-1000, 0)):
                flat = [0] * d + [b]
                self.assertEqual(can(d, flat), [answer], flat)
                self.assertEqual(can(d, [1] * (d + 1) + flat), [answer], flat)
                self.assertEqual(can(d, flat + [-1] * (d + 1)), [answer], flat)

    def test_numbers_at_their_ends(self):
        self.assertEqual(can(1, [1000, 999, -999, -998]), [1])
        self.assertEqual(can(1, [1000, 998, -999, -998]), [0])
        near = [1000, 999, 0, 0, -1000, -999, 0, 0, 0, 1000, 999, 0, 0, -1000, -999, 0]
        self.assertEqual(can(3, near + [0, 0, 1000, 1000, 0, 0, -1000, -1000]), [1])
        self.assertEqual(can(3, near + [0, 0, 1000, 999, 0, 0, -1000, -1000]), [0])
        self.assertEqual(can(3, [1000, -1000, 1000, -1000] * 8), [1])

    def test_by_a_hair(self):
        # x is at most 999/1000 of y, y at most 999/1000 of z, z at most 1: so x is at most 998001/1000000.
        chain = [1000, -999, 0, 0, 0, 1000, -999, 0, 0, 0, 1, 1]
        self.assertEqual(can(3, chain + [-1000, 0, 0, -998]), [1])
        self.assertEqual(can(3, chain + [-1000, 0, 0, -999]), [0])
        self.assertEqual(can(3, chain + [-499, 0, 0, -498]), [1])
        self.assertEqual(can(3, chain + [-500, 0, 0, -499]), [1])
        self.assertEqual(can(3, chain + [-501, 0, 0, -500]), [0])


class SecondWay(unittest.TestCase):
    def check(self, d, sides):
        answer = 0 if some_point(d, sides) is None else 1
        self.assertEqual(can(d, sides), [answer], (d, sides))
        return answer

    def test_all_small_ones_of_one_unknown(self):
        each = list(product((-2, -1, 0, 1, 3), (-2, -1, 0, 1)))
        for one, two, three in product(each, repeat=3):
            self.check(1, list(one + two + three))

    def test_small_ones_of_two_unknowns(self):
        each = list(product((-1, 0, 2), (-1, 0, 1), (-1, 0, 1)))
        for three in combinations(each, 3):
            self.check(2, list(sum(three, ())))

    def test_many(self):
        source = numbers(2)
        seen = {0: 0, 1: 0}
        for turn in range(1500):
            d = turn % 3 + 1
            most = (1, 3, 30, 1000)[turn % 4]
            many = drawn(source, d, 8)
            seen[self.check(d, [drawn(source, -most, most) for _ in range(many * (d + 1))])] += 1
        self.assertGreater(min(seen.values()), 300)

    def test_many_that_just_can_or_just_cannot(self):
        # The sides all go through one whole point, and one of them is then moved by 1 or not.
        source = numbers(3)
        seen = {0: 0, 1: 0}
        for turn in range(900):
            d = turn % 3 + 1
            x = [drawn(source, -5, 5) for _ in range(d)]
            sides = []
            for _ in range(drawn(source, d + 1, 8)):
                side = [drawn(source, -6, 6) for _ in range(d)]
                sides += side + [sum(a * n for a, n in zip(side, x))]
            if turn % 2:
                sides[d] -= 1
            else:
                self.assertEqual(can(d, sides), [1], (d, sides))
            seen[self.check(d, sides)] += 1
        self.assertGreater(min(seen.values()), 150)


if __name__ == "__main__":
    unittest.main()
