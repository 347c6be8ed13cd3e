"""What several tests need: lists that may not be changed, and a second way to each answer."""

from fractions import Fraction
from itertools import combinations

GREATEST = 2147483647
LOWEST = -2147483648


def refuse_change(self, *args, **kwargs):
    raise AssertionError("a list that was handed in was changed")


class Held(list):
    """A list that tells at once when something tries to change it, if only for a while."""


for name in ("append", "clear", "extend", "insert", "pop", "remove", "reverse", "sort",
             "__setitem__", "__delitem__", "__iadd__", "__imul__"):
    setattr(Held, name, refuse_change)


def numbers(seed):
    """A row of numbers without an end, the same for the same seed: steps of a plain remainder."""
    while True:
        seed = (seed * 6364136223846793005 + 1442695040888963407) % 2 ** 64
        yield seed >> 33


def drawn(source, low, high):
    return low + next(source) % (high - low + 1)


def in_sides(d, row):
    return [row[i:i + d + 1] for i in range(0, len(row), d + 1)]


def in_points(d, row):
    return in_sides(d - 1, row)


def point_meets(d, row, point):
    """point: fractions."""
    return all(sum((a * p for a, p in zip(side[:d], point)), Fraction(0)) <= side[d]
               for side in in_sides(d, row))


def point_on(d, sides):
    """A point that just meets these sides, or None if their unknowns' numbers hang on one another."""
    rows = [[Fraction(n) for n in side] for side in sides]
    heads = []
    for at, row in enumerate(rows):
        head = next((k for k in range(d) if row[k] != 0), None)
        if head is None:
            return None
        rows[at] = [n / row[head] for n in row]
        heads.append(head)
        for other in range(len(rows)):
            if other != at:
                times = rows[other][head]
                rows[other] = [n - times * m for n, m in zip(rows[other], rows[at])]
    point = [Fraction(0)] * d
    for row, head in zip(rows, heads):
        point[head] = row[d]
    return point


def points_on(d, row, sizes):
    """The points that meet the sides and are fixed by so many of them, for every such choice."""
    for many in sizes:
        for chosen in combinations(in_sides(d, row), many):
            point = point_on(d, chosen)
            if point is not None and point_meets(d, row, point):
                yield point


def some_point(d, row):
    """A point that meets the sides, or None.

    If any point does, then so does every point that just meets some of the sides, well chosen
    (those of a least face): each choice of at most d sides is tried.
    """
    return next(points_on(d, row, range(d + 1)), None)


def rank(d, sides):
    """The most of the sides whose unknowns' numbers don't hang on one another."""
    return max(many for many in range(d + 1)
               if any(point_on(d, chosen) is not None for chosen in combinations(sides, many)))


def weights_for(d, row, x):
    """A weight for each of the points, fractions that add up to 1, so that x is their mean; or None.

    If there are any, then some d + 1 points at most, well chosen, have weights that nothing else could be.
    """
    points = in_points(d, row)
    for many in range(1, d + 2):
        for chosen in combinations(range(len(points)), many):
            equal = [[points[at][k] for at in chosen] + [x[k]] for k in range(d)] + [[1] * (many + 1)]
            for some in combinations(equal, many):
                found = point_on(many, some)
                if found is not None and min(found) >= 0 and all(
                        sum(n * f for n, f in zip(line, found)) == line[many] for line in equal):
                    return [dict(zip(chosen, found)).get(at, Fraction(0)) for at in range(len(points))]
    return None
