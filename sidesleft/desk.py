"""The calls. Each takes whole numbers and rows of them, and answers a list of whole numbers."""

from sidesleft.reckon import can_be_met, corner_points, cut, in_one_row, is_between, is_mean, meets_all
from sidesleft.reckon import most_worth, parts_from, show_none_meets, without

MOST_UNKNOWNS = 3
MOST_SIDES = 8
MOST_POINTS = 6
MOST_DIVISOR = 1000
MOST_NUMBER = 1000
MOST_TIMES = 1000000000


def meets(d, q, sides, x):
    """1 if the point x, divided by q, meets the sides, else 0; -1 is a refusal."""
    if not (fit_sides(d, sides) and fit_numbers(x, d) and fit_divisor(q)):
        return refusal()
    return yes_or_no(meets_all(cut(sides, d + 1), q, x))


def can(d, sides):
    """1 if some point meets the sides, else 0; -1 is a refusal."""
    if not fit_sides(d, sides):
        return refusal()
    return yes_or_no(can_be_met(d, cut(sides, d + 1)))


def refutes(d, sides, y):
    """1 if y, how often each side is taken, shows that no point meets them all, else 0; -1 is a refusal."""
    if not (fit_sides(d, sides) and fit_times(y, len(sides) // (d + 1))):
        return refusal()
    return yes_or_no(show_none_meets(d, cut(sides, d + 1), y))


def drop(d, k, sides):
    """How many sides are left without unknown k, then these; -1 is a refusal."""
    if not (fit_sides(d, sides) and fit_unknown(d, k)):
        return refusal()
    return counted(without(k, cut(sides, d + 1)))


def corners(d, sides):
    """How many corners the sides have, then these, the least first; -1 is a refusal."""
    if not fit_sides(d, sides):
        return refusal()
    return counted(corner_points(d, cut(sides, d + 1)))


def best(d, sides, c):
    """1, then the most that c makes of a point that meets the sides; 0: no point does; 2: no most; -1 is a refusal."""
    if not (fit_sides(d, sides) and fit_numbers(c, d)):
        return refusal()
    each = cut(sides, d + 1)
    if not can_be_met(d, each):
        return [0]
    most = most_worth(d, each, c)
    return [2] if most is None else [1] + most


def between(d, points, x):
    """1 if x is between the points, else 0; -1 is a refusal."""
    if not (fit_points(d, points) and fit_numbers(x, d)):
        return refusal()
    return yes_or_no(is_between(d, cut(points, d), x))


def parts(d, points, x, side):
    """1 if all of the points meet the side and x doesn't, else 0; -1 is a refusal."""
    if not (fit_points(d, points) and fit_numbers(x, d) and fit_numbers(side, d + 1)):
        return refusal()
    return yes_or_no(parts_from(cut(points, d), x, side))


def gives(d, points, x, w):
    """1 if w are weights with which x is the points' weighted mean, else 0; -1 is a refusal."""
    if not (fit_points(d, points) and fit_numbers(x, d) and fit_times(w, len(points) // d)):
        return refusal()
    return yes_or_no(is_mean(d, cut(points, d), x, w))


def refusal():
    return [-1]


def yes_or_no(holds):
    return [1 if holds else 0]


def counted(rows):
    return [len(rows)] + in_one_row(rows)


def fit_unknowns(d):
    return 1 <= d <= MOST_UNKNOWNS


def fit_unknown(d, k):
    return 0 <= k < d


def fit_divisor(q):
    return 1 <= q <= MOST_DIVISOR


def fit_row(row, size, low, high):
    return len(row) == size and all([low <= n <= high for n in row])


def fit_numbers(row, size):
    """Whether the row is so many numbers that sides, points and their like may have."""
    return fit_row(row, size, -MOST_NUMBER, MOST_NUMBER)


def fit_times(row, size):
    """Whether the row is so many numbers that say how often something is taken."""
    return fit_row(row, size, 0, MOST_TIMES)


def fit_rows(row, size, fewest, most):
    """Whether the row is so many rows of size numbers each, one behind another."""
    many = len(row) // size
    return fewest <= many <= most and fit_numbers(row, many * size)


def fit_sides(d, sides):
    """Whether d is in its range, and the row is 0 to 8 sides of d + 1 numbers each."""
    # d comes first: d + 1 may be 0 where d is out of its range.
    return fit_unknowns(d) and fit_rows(sides, d + 1, 0, MOST_SIDES)


def fit_points(d, points):
    """Whether d is in its range, and the row is 1 to 6 points of d numbers each."""
    return fit_unknowns(d) and fit_rows(points, d, 1, MOST_POINTS)
