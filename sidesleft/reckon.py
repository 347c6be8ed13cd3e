"""Exact reckoning with sides and points. A side is a list: a number for each unknown, and b behind them."""


def cut(row, size):
    """The row's numbers, size of them at a time."""
    return [row[start:start + size] for start in range(0, len(row), size)]


def in_one_row(rows):
    """The numbers of the rows, one row behind another."""
    row = []
    for part in rows:
        row.extend(part)
    return row


def is_met(side, q, x):
    """Whether the point x, divided by q, meets the side."""
    d = len(x)
    total = sum([side[i] * x[i] for i in range(d)])
    # b is taken q times, in the place of dividing x: so all numbers stay whole.
    return total <= side[d] * q


def meets_all(sides, q, x):
    """Whether the point x, divided by q, meets each of the sides."""
    return all([is_met(side, q, x) for side in sides])


def together(rows, times, i):
    """Number i of the rows (sides or points), added up so many times each as is told."""
    return sum([row[i] * often for row, often in zip(rows, times)])


def show_none_meets(d, sides, y):
    """Whether the sides, so many times each as y says, have 0 for each unknown and b below 0."""
    return all([together(sides, y, k) == 0 for k in range(d)]) and together(sides, y, d) < 0


def joined(above, below, k):
    """The two sides added up, each so many times that unknown k is gone."""
    return [above[i] * -below[k] + below[i] * above[k] for i in range(len(above))]


def without(k, sides):
    """The sides that are left when unknown k is dropped."""
    left = [side for side in sides if side[k] == 0]
    below_zero = [side for side in sides if side[k] < 0]
    for above in sides:
        if above[k] > 0:
            left.extend([joined(above, below, k) for below in below_zero])
    return left


def without_first(many, sides):
    """The sides that are left when so many unknowns are dropped, from the first on."""
    left = sides
    for k in range(many):
        left = without(k, left)
    return left


def can_be_met(d, sides):
    """Whether some point meets all of the sides."""
    # Dropping an unknown neither gains nor loses points of the others: at last each side says that 0 is at most b.
    return all([side[d] >= 0 for side in without_first(d, sides)])


def common_divisor(one, other):
    """The greatest number that divides both, at least 0."""
    while other != 0:
        rest = one % other
        one = other
        other = rest
    return abs(one)


def in_lowest_terms(row):
    """The same point or fraction, with its last number above 0 and nothing from 2 on that divides all its numbers."""
    shared = 0
    for number in row:
        shared = common_divisor(shared, number)
    if row[-1] < 0:
        shared = -shared
    return [number // shared for number in row]


def least(limits):
    """The least of some fractions, each an upper number and a lower one above 0."""
    found = limits[0]
    for fraction in limits:
        if fraction[0] * found[1] < found[0] * fraction[1]:
            found = fraction
    return found


def with_worth(d, sides, c):
    """The sides with one more unknown behind the others: a worth, at most what c makes of the point."""
    return [side[:d] + [0, side[d]] for side in sides] + [[-number for number in c] + [1, 0]]


def most_worth(d, sides, c):
    """The most that c makes of a point that meets the sides (some point must), or None if there is no most."""
    # What is left speaks of the worth alone. None has it below 0: it came in above 0, and sides are but added up.
    left = without_first(d, with_worth(d, sides, c))
    limits = [[side[d + 1], side[d]] for side in left if side[d] > 0]
    if len(limits) == 0:
        return None
    return in_lowest_terms(least(limits))


def choices(rows, many):
    """Every choice of so many of the rows, each in their order."""
    found = [[]]
    for row in rows:
        found = found + [part + [row] for part in found if len(part) < many]
    return [part for part in found if len(part) == many]


def determinant(square):
    """0 exactly if the rows, as many as each has numbers, hang on one another."""
    if len(square) == 0:
        return 1
    total = 0
    for at in range(len(square)):
        others = [row[1:] for row in square[:at] + square[at + 1:]]
        part = square[at][0] * determinant(others)
        total += part if at % 2 == 0 else -part
    return total


def with_b_for(k, side):
    """The side's numbers for the unknowns, b in the place of unknown k's."""
    return side[:k] + side[-1:] + side[k + 1:-1]


def crossing(d, sides):
    """The only point that just meets these d sides, in lowest terms, or None if there is no such one."""
    divisor = determinant([side[:d] for side in sides])
    if divisor == 0:
        return None
    # Cramer's rule: whole numbers throughout.
    point = [determinant([with_b_for(k, side) for side in sides]) for k in range(d)]
    return in_lowest_terms(point + [divisor])


def in_order(d, points):
    """The points by x(0), then x(1) and so on, the least first."""
    # Once all are divided by the same number, their other numbers alone tell the order.
    shared = 1
    for each in points:
        shared = shared * each[d]
    return sorted(points, key=lambda point: [number * (shared // point[d]) for number in point[:d]])


def corner_points(d, sides):
    """All corners, in lowest terms, each once, the least first."""
    found = []
    # Of the sides that a corner just meets, some d fix it alone.
    for chosen in choices(sides, d):
        point = crossing(d, chosen)
        if point is not None and point not in found and meets_all(sides, point[d], point[:d]):
            found.append(point)
    return in_order(d, found)


def is_between(d, points, x):
    """Whether x, of whole numbers, is between the points."""
    # Weights that make x the mean of the points are just the multipliers that refute these sides in unknowns a, which
    # say that a makes less of each point than of x: by 1 at least, as a may be taken as often as it needs.
    steps = [[point[k] - x[k] for k in range(d)] for point in points]
    return not can_be_met(d, [step + [-1] for step in steps])


def parts_from(points, x, side):
    """Whether the side is met by each of the points, and not by x."""
    return all([is_met(side, 1, point) for point in points]) and not is_met(side, 1, x)


def is_mean(d, points, x, w):
    """Whether w are weights, not all 0, with which x is the mean of the points."""
    total = sum(w)
    # x is taken as often as all the points, in the place of dividing by that.
    return total > 0 and all([together(points, w, k) == total * x[k] for k in range(d)])
