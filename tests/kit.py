"""What several tests need: lists that may not be changed, and a second way to each answer."""

from fractions import Fraction
from itertools import combinations

GREATEST = 2147483647
LOWEST = -2147483648


def refuse_change(self, *args, **kwargs):
    raise AssertionError("a list that was handed in was changed")


class Held(list):
    """A list that tells at once when something tries to change it, if only for a while."""


for name in ("append", "clear", "extend", "insert", "pop", "remove", "reverse", "sort",
             "__setitem__", "__delitem__", "__iadd__", "__imul__"):
    setattr(Held, name, refuse_change)


def numbers(seed):
    """A row of numbers without an end, the same for the same seed: steps of a plain remainder."""
    while True:
        seed = (seed * 6364136223846793005 + 1442695040888963407) % 2 ** 64
        yield seed >> 33


def drawn(source, low, high):
    return low + next(source) % (high - low + 1)


def in_sides(d, row):
    return [row[i:i + d + 1] for i in range(0, len(row), d + 1)]


def point_meets(d, row, point):
    """point: fractions."""
    return all(sum((a * p for a, p in zip(side[:d], point)), Fraction(0)) <= side[d]
               for side in in_sides(d, row))


def point_on(d, sides):
    """A point that just meets these sides, or None if their unknowns' numbers hang on one another."""
    rows = [[Fraction(n) for n in side] for side in sides]
    heads = []
    for at, row in enumerate(rows):
        head = next((k for k in range(d) if row[k] != 0), None)
        if head is None:
            return None
        rows[at] = [n / row[head] for n in row]
        heads.append(head)
        for other in range(len(rows)):
            if other != at:
                times = rows[other][head]
                rows[other] = [n - times * m for n, m in zip(rows[other], rows[at])]
    point = [Fraction(0)] * d
    for row, head in zip(rows, heads):
        point[head] = row[d]
    return point


def points_on(d, row, sizes):
    """The points that meet the sides and are fixed by so many of them, for every such choice."""
    for many in sizes:
        for chosen in combinations(in_sides(d, row), many):
            point = point_on(d, chosen)
            if point is not None and point_meets(d, row, point):
                yield point


def some_point(d, row):
    """A point that meets the sides, or None.

    If any point does, then so does every point that just meets some of the sides, well chosen
    (those of a least face): each choice of at most d sides is tried.
    """
    return next(points_on(d, row, range(d + 1)), None)


def rank(d, sides):
    """The most of the sides whose unknowns' numbers don't hang on one another."""
    return max(many for many in range(d + 1)
               if any(point_on(d, chosen) is not None for chosen in combinations(sides, many)))
