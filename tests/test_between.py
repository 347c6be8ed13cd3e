"""Promise 7, between, and what the document says ahead of it."""

import unittest
from itertools import combinations_with_replacement, permutations, product

from kit import drawn, in_points, numbers, weights_for
from sidesleft.desk import between

TRIANGLE = [0, 0, 6, 0, 0, 6]
FOUR_IN_SPACE = [0, 0, 0, 6, 0, 0, 0, 6, 0, 0, 0, 6]
SIX_IN_SPACE = [5, 0, 0, -5, 0, 0, 0, 5, 0, 0, -5, 0, 0, 0, 5, 0, 0, -5]


def straight(one, other):
    """The numbers of a plane that both steps lie in: what stands straight on them."""
    return [one[1] * other[2] - one[2] * other[1], one[2] * other[0] - one[0] * other[2],
            one[0] * other[1] - one[1] * other[0]]


def step(one, other):
    return [m - n for n, m in zip(one, other)]


class Ordinary(unittest.TestCase):
    def test_one_unknown(self):
        for points in ([2, 5], [5, 2], [2, 3, 5], [4, 5, 2, 3]):
            for x, answer in ((1, 0), (2, 1), (3, 1), (4, 1), (5, 1), (6, 0), (-3, 0)):
                self.assertEqual(between(1, points, [x]), [answer], (points, x))

    def test_two_unknowns(self):
        for x, answer in (([0, 0], 1), ([6, 0], 1), ([0, 6], 1), ([1, 1], 1), ([2, 2], 1), ([4, 1], 1),
                          ([3, 3], 1), ([3, 0], 1), ([0, 5], 1), ([3, 4], 0), ([4, 3], 0), ([-1, 3], 0),
                          ([3, -1], 0), ([7, 0], 0), ([7, -1], 0), ([-1, -1], 0), ([6, 6], 0)):
            self.assertEqual(between(2, TRIANGLE, x), [answer], x)

    def test_three_unknowns(self):
        for x, answer in (([0, 0, 0], 1), ([6, 0, 0], 1), ([0, 0, 6], 1), ([1, 1, 1], 1), ([2, 1, 1], 1),
                          ([2, 2, 2], 1), ([1, 2, 0], 1), ([3, 3, 0], 1), ([0, 2, 4], 1), ([0, 0, 5], 1),
                          ([2, 2, 3], 0), ([3, 2, 2], 0), ([-1, 1, 1], 0), ([1, -1, 1], 0), ([1, 1, -1], 0),
                          ([7, 0, 0], 0), ([7, -1, 0], 0), ([6, 6, 6], 0)):
            self.assertEqual(between(3, FOUR_IN_SPACE, x), [answer], x)

    def test_one_of_the_points(self):
        for d in (1, 2, 3):
            for many in range(1, 7):
                points = [(7 * at * at + 3 * at) % 11 - 5 for at in range(1, many * d + 1)]
                for point in in_points(d, points):
                    self.assertEqual(between(d, points, point), [1], (points, point))

    def test_on_the_line_between_two(self):
        for x, answer in (([0, 0], 1), ([1, 2], 1), ([2, 4], 1), ([3, 6], 1), ([4, 8], 0), ([-1, -2], 0),
                          ([1, 3], 0), ([2, 3], 0), ([1, 1], 0), ([0, 6], 0)):
            self.assertEqual(between(2, [0, 0, 3, 6], x), [answer], x)
        for x, answer in (([2, 0, 1], 1), ([0, 1, 4], 1), ([-4, 3, 10], 1), ([4, -1, -2], 0), ([-6, 4, 13], 0),
                          ([0, 1, 5], 0), ([1, 1, 4], 0), ([0, 0, 4], 0)):
            self.assertEqual(between(3, [2, 0, 1, -4, 3, 10], x), [answer], x)

    def test_points_in_one_line(self):
        for t in range(-4, 8):
            answer = [1 if -2 <= t <= 5 else 0]
            steps = (0, 5, 1, -2, 3, 1)
            self.assertEqual(between(1, list(steps), [t]), answer, t)
            self.assertEqual(between(2, [n for s in steps for n in (3 * s, 1 - 2 * s)], [3 * t, 1 - 2 * t]), answer, t)
            self.assertEqual(between(2, [n for s in steps for n in (4, s)], [4, t]), answer, t)
            line = [n for s in steps for n in (s, 2 * s, 7 - s)]
            self.assertEqual(between(3, line, [t, 2 * t, 7 - t]), answer, t)
            for beside in ([t + 1, 2 * t, 7 - t], [t, 2 * t + 1, 7 - t], [t, 2 * t, 8 - t]):
                self.assertEqual(between(3, line, beside), [0], beside)

    def test_points_in_one_plane(self):
        # x(2) is x(0) + 2 x(1) in all of them.
        corners = ((0, 0), (4, 0), (4, 3), (0, 3), (2, 5))
        plane = [n for s, t in corners for n in (s, t, s + 2 * t)]
        for s, t in product(range(-2, 7), repeat=2):
            flat = between(2, [n for corner in corners for n in corner], [s, t])
            self.assertEqual(flat, [int(0 <= s <= 4 and 0 <= t and t <= 3 + s and t <= 7 - s)], (s, t))
            self.assertEqual(between(3, plane, [s, t, s + 2 * t]), flat, (s, t))
            self.assertEqual(between(3, plane, [s, t, s + 2 * t + 1]), [0], (s, t))
            self.assertEqual(between(3, plane, [s, t, s + 2 * t - 1]), [0], (s, t))

    def test_in_the_plane_of_a_triangle_in_space(self):
        triangle = [0, 0, 0, 3, 0, 3, 0, 3, 3]
        for x, answer in (([1, 1, 2], 1), ([2, 1, 3], 1), ([1, 0, 1], 1), ([3, 3, 6], 0), ([2, 2, 4], 0),
                          ([-1, 1, 0], 0), ([1, -1, 0], 0), ([-1, -1, -2], 0), ([1, 1, 1], 0), ([1, 1, 3], 0)):
            self.assertEqual(between(3, triangle, x), [answer], x)

    def test_the_same_point_twice(self):
        for d in (1, 2, 3):
            for many in range(1, 7):
                self.assertEqual(between(d, [4] * d * many, [4] * d), [1], (d, many))
                for k in range(d):
                    for n in (3, 5, -4, 0):
                        x = [n if i == k else 4 for i in range(d)]
                        self.assertEqual(between(d, [4] * d * many, x), [0], (d, many, x))
        self.assertEqual(between(2, TRIANGLE * 2, [2, 2]), [1])
        self.assertEqual(between(2, TRIANGLE * 2, [4, 3]), [0])
        self.assertEqual(between(2, [0, 0, 2, 2, 2, 2], [1, 1]), [1])
        self.assertEqual(between(2, [0, 0, 2, 2, 2, 2], [1, 2]), [0])

    def test_six_in_space(self):
        for x in product(range(-3, 4), repeat=3):
            self.assertEqual(between(3, SIX_IN_SPACE, list(x)), [int(sum(abs(n) for n in x) <= 5)], x)

    def test_six_in_a_plane(self):
        six = [2, 0, 4, 0, 6, 2, 4, 4, 2, 4, 0, 2]
        for s, t in product(range(-1, 8), range(-1, 6)):
            inside = 0 <= t <= 4 and s + t >= 2 and s - t <= 4 and s + t <= 8 and t - s <= 2
            self.assertEqual(between(2, six, [s, t]), [int(inside)], (s, t))

    def test_each_number_counts(self):
        for d in (1, 2, 3):
            points = [0] * d + [2] * d
            self.assertEqual(between(d, points, [1] * d), [1])
            for k in range(d):
                for n in (-1, 3) if d == 1 else (-1, 0, 2, 3):
                    x = [n if i == k else 1 for i in range(d)]
                    self.assertEqual(between(d, points, x), [0], x)

    def test_the_order_of_the_points_is_nothing_to_it(self):
        for d, points in ((2, TRIANGLE + [5, 5]), (3, FOUR_IN_SPACE)):
            for x in product((0, 2, 4), repeat=d):
                told = [between(d, [n for point in order for n in point], list(x))
                        for order in permutations(in_points(d, points))]
                self.assertEqual(told, [told[0]] * 24, x)

    def test_the_weights_are_from_0_on(self):
        # Weights below 0 would make these: on the line, in the plane, in space.
        self.assertEqual(between(1, [1, 2], [3]), [0])
        self.assertEqual(between(2, [0, 0, 1, 0, 0, 1], [1, 1]), [0])
        self.assertEqual(between(3, [0, 0, 0, 1, 0, 0, 0, 1, 0, 0, 0, 1], [1, 1, 1]), [0])

    def test_a_mean_and_not_a_sum(self):
        self.assertEqual(between(1, [1], [2]), [0])
        self.assertEqual(between(1, [2], [0]), [0])
        self.assertEqual(between(2, [1, 0, 0, 1], [1, 1]), [0])
        self.assertEqual(between(2, [1, 0, 0, 1], [0, 0]), [0])
        self.assertEqual(between(2, [2, 0, 0, 2], [1, 1]), [1])
        self.assertEqual(between(3, [3, 0, 0, 0, 3, 0, 0, 0, 3], [1, 1, 1]), [1])
        self.assertEqual(between(3, [3, 0, 0, 0, 3, 0, 0, 0, 3], [0, 0, 0]), [0])


class Edges(unittest.TestCase):
    def test_how_many_points(self):
        for d in (1, 2, 3):
            self.assertEqual(between(d, [], [0] * d), [-1])
            for many in range(1, 7):
                self.assertEqual(between(d, [3] * d * many, [3] * d), [1], (d, many))
                self.assertEqual(between(d, [3] * d * many, [2] * d), [0], (d, many))
            self.assertEqual(between(d, [3] * d * 7, [3] * d), [-1])

    def test_the_sixth_point_counts(self):
        for at in range(6):
            points = [2 if i == at else 0 for i in range(6)]
            self.assertEqual(between(1, points, [1]), [1], points)
            self.assertEqual(between(2, [n for p in points for n in (p, 1)], [1, 1]), [1], points)
            self.assertEqual(between(3, [n for p in points for n in (1, p, -p)], [1, 1, -1]), [1], points)
        self.assertEqual(between(1, [0] * 6, [1]), [0])

    def test_d(self):
        for d in (-2147483648, -3, -2, -1, 0, 4, 5, 6, 2147483647):
            for many in (0, 1, 2, 3, 4, 5, 12):
                self.assertEqual(between(d, [0] * many, [0] * min(abs(d), 60)), [-1], (d, many))
                self.assertEqual(between(d, [0] * many, []), [-1], (d, many))

    def test_numbers_at_their_ends(self):
        for d in (1, 2, 3):
            ends = [-1000] * d + [1000] * d
            for n in (-1000, -999, 0, 1, 999, 1000):
                self.assertEqual(between(d, ends, [n] * d), [1], (d, n))
                for k in range(1, d):
                    x = [n - 1 if i == k and n > 0 else n + 1 if i == k else n for i in range(d)]
                    self.assertEqual(between(d, ends, x), [0], x)
            for n in (1001, -1001):
                self.assertEqual(between(d, ends, [n] * d), [-1])
                self.assertEqual(between(d, [n] + ends[1:], [0] * d), [-1])
                self.assertEqual(between(d, ends[:-1] + [n], [0] * d), [-1])
        for x in product((-1000, 0, 1000), repeat=2):
            self.assertEqual(between(2, [-1000, -1000, 1000, -1000, -1000, 1000, 1000, 1000], list(x)), [1], x)

    def test_one_beyond_the_last(self):
        self.assertEqual(between(1, [-1000, 999], [1000]), [0])
        self.assertEqual(between(1, [-1000, 999], [999]), [1])
        self.assertEqual(between(1, [-999, 1000], [-1000]), [0])
        self.assertEqual(between(1, [-999, 1000], [-999]), [1])

    def test_beside_a_line_by_as_little_as_can_be(self):
        # Twice the area of the two ends and x is 1.
        low = [-1000, -1000]
        high = [1000, 999]
        for x, on in (([-999, -999], 1), ([999, 998], -1)):
            self.assertEqual(2000 * (x[1] + 1000) - 1999 * (x[0] + 1000), on)
            self.assertEqual(between(2, low + high, x), [0], x)
            self.assertEqual(between(2, low + high + [-1000, 1000], x), [int(on > 0)], x)
            self.assertEqual(between(2, low + high + [1000, -1000], x), [int(on < 0)], x)
            self.assertEqual(between(2, low + high + [-1000, 1000, 1000, -1000], x), [1], x)

    def test_beside_a_plane_by_as_little_as_can_be(self):
        # Six times what the three points and x hold between them is 1.
        a = [-997, 1000, 1000]
        b = [1000, 1000, -1000]
        c = [-1000, -1000, -999]
        x = [-555, -333, -777]
        plane = straight(step(a, b), step(a, c))
        self.assertEqual(plane, [-4000000, 3998003, -3994000])
        self.assertEqual(sum(n * m for n, m in zip(plane, step(a, x))), 1)
        before = [-1000, 1000, -1000]  # on x's side of the plane
        behind = [1000, -1000, 1000]
        self.assertEqual(between(3, a + b + c, x), [0])
        self.assertEqual(between(3, a + b + c + before, x), [1])
        self.assertEqual(between(3, a + b + c + behind, x), [0])
        self.assertEqual(between(3, behind + c + b + a + behind + [1000, -1000, 999], x), [0])
        self.assertEqual(between(3, behind + c + b + a + behind + before, x), [1])

    def test_beside_a_line_in_space(self):
        ends = [-1000, -1000, -1000, 1000, 1000, 999]
        self.assertEqual(between(3, ends, [-1000, -1000, -1000]), [1])
        for x in ([0, 0, 0], [0, 0, -1], [999, 999, 998], [-999, -999, -999], [999, 1000, 998]):
            self.assertEqual(between(3, ends, x), [0], x)
        self.assertEqual(between(3, [-1000, -1000, -1000, 1000, 1000, 998], [0, 0, -1]), [1])
        self.assertEqual(between(3, [-1000, -1000, -1000, 1000, 1000, 998], [0, 0, 0]), [0])


class SecondWay(unittest.TestCase):
    def test_all_small_ones_on_a_line(self):
        for many in (1, 2, 3, 4):
            for points in product(range(-2, 3), repeat=many):
                for x in range(-3, 4):
                    answer = [int(min(points) <= x <= max(points))]
                    self.assertEqual(between(1, list(points), [x]), answer, (points, x))

    def test_all_small_ones_in_a_plane(self):
        spots = list(product(range(3), repeat=2))
        for many in (1, 2, 3):
            for chosen in combinations_with_replacement(spots, many):
                points = [n for spot in chosen for n in spot]
                for x in spots:
                    answer = [0 if weights_for(2, points, x) is None else 1]
                    self.assertEqual(between(2, points, list(x)), answer, (points, x))

    def test_many(self):
        source = numbers(15)
        seen = {}
        for turn in range(1800):
            d = turn % 3 + 1
            most = (2, 9, 1000)[turn // 3 % 3]
            points = [drawn(source, -most, most) for _ in range(drawn(source, 1, 6) * d)]
            x = [drawn(source, -most // (d + 1), most // (d + 1)) for _ in range(d)]
            answer = 0 if weights_for(d, points, x) is None else 1
            seen[d, most, answer] = seen.get((d, most, answer), 0) + 1
            self.assertEqual(between(d, points, x), [answer], (d, points, x))
        self.assertEqual(len(seen), 18)
        self.assertGreater(min(seen.values()), 15, seen)

    def test_means_of_some_of_the_points(self):
        # On the faces between few points, where a little more or less decides.
        source = numbers(16)
        for turn in range(600):
            d = turn % 3 + 1
            many = drawn(source, 2, 6)
            points = [5 * drawn(source, -20, 20) for _ in range(many * d)]
            each = in_points(d, points)
            one = each[drawn(source, 0, many - 1)]
            other = each[drawn(source, 0, many - 1)]
            times = drawn(source, -1, 6)
            x = [(times * n + (5 - times) * m) // 5 for n, m in zip(one, other)]
            if 0 <= times <= 5:
                self.assertEqual(between(d, points, x), [1], (d, points, x))
            x[turn % d] += drawn(source, -1, 1)
            answer = 0 if weights_for(d, points, x) is None else 1
            self.assertEqual(between(d, points, x), [answer], (d, points, x))


if __name__ == "__main__":
    unittest.main()
