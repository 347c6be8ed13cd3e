"""Exact reckoning with sides. A side is a list: a number for each unknown, and b behind them."""


def cut(row, size):
    """The row's numbers, size of them at a time."""
    return [row[start:start + size] for start in range(0, len(row), size)]


def in_one_row(rows):
    """The numbers of the rows, one row behind another."""
    row = []
    for part in rows:
        row.extend(part)
    return row


def is_met(side, q, x):
    """Whether the point x, divided by q, meets the side."""
    d = len(x)
    total = sum([side[i] * x[i] for i in range(d)])
    # b is taken q times, in the place of dividing x: so all numbers stay whole.
    return total <= side[d] * q


def meets_all(sides, q, x):
    """Whether the point x, divided by q, meets each of the sides."""
    return all([is_met(side, q, x) for side in sides])


def together(sides, y, i):
    """Number i of the sides, added up so many times each as y says."""
    return sum([side[i] * times for side, times in zip(sides, y)])


def show_none_meets(d, sides, y):
    """Whether the sides, so many times each as y says, have 0 for each unknown and b below 0."""
    return all([together(sides, y, k) == 0 for k in range(d)]) and together(sides, y, d) < 0


def joined(above, below, k):
    """The two sides added up, each so many times that unknown k is gone."""
    return [above[i] * -below[k] + below[i] * above[k] for i in range(len(above))]


def without(k, sides):
    """The sides that are left when unknown k is dropped."""
    left = [side for side in sides if side[k] == 0]
    below_zero = [side for side in sides if side[k] < 0]
    for above in sides:
        if above[k] > 0:
            left.extend([joined(above, below, k) for below in below_zero])
    return left


def can_be_met(d, sides):
    """Whether some point meets all of the sides."""
    left = sides
    # Dropping an unknown neither gains nor loses points of the others.
    for k in range(d):
        left = without(k, left)
    # Each side that is left has 0 for every unknown: it says that 0 is at most b.
    return all([side[d] >= 0 for side in left])
