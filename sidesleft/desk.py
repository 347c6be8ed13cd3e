"""The calls. Each takes whole numbers and rows of them, and answers a list of whole numbers."""

from sidesleft.reckon import can_be_met, cut, meets_all

MOST_UNKNOWNS = 3
MOST_SIDES = 8
MOST_DIVISOR = 1000
MOST_NUMBER = 1000


def meets(d, q, sides, x):
    """1 if the point x, divided by q, meets the sides, else 0; -1 is a refusal."""
    if not (fit_sides(d, sides) and fit_numbers(x, d) and fit_divisor(q)):
        return refusal()
    return yes_or_no(meets_all(cut(sides, d + 1), q, x))


def can(d, sides):
    """1 if some point meets the sides, else 0; -1 is a refusal."""
    if not fit_sides(d, sides):
        return refusal()
    return yes_or_no(can_be_met(d, cut(sides, d + 1)))


def refusal():
    return [-1]


def yes_or_no(holds):
    return [1 if holds else 0]


def fit_unknowns(d):
    return 1 <= d <= MOST_UNKNOWNS


def fit_divisor(q):
    return 1 <= q <= MOST_DIVISOR


def fit_numbers(row, size):
    """Whether the row has so many numbers, none of them too great or too low."""
    return len(row) == size and all([-MOST_NUMBER <= n <= MOST_NUMBER for n in row])


def fit_sides(d, sides):
    """Whether d is in its range, and the row is 0 to 8 sides of d + 1 numbers each."""
    # d comes first: d + 1 may be 0 where d is out of its range.
    if not fit_unknowns(d):
        return False
    many = len(sides) // (d + 1)
    return many <= MOST_SIDES and fit_numbers(sides, many * (d + 1))
