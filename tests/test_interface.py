"""What the interface says of every call: names, kinds, and that nothing is changed, kept or printed."""

import contextlib
import inspect
import io
import unittest

from kit import GREATEST, Held
from sidesleft import desk

CUBE = [1, 0, 0, 1, -1, 0, 0, 1, 0, 1, 0, 1, 0, -1, 0, 1, 0, 0, 1, 1, 0, 0, -1, 1]

# A call's name, what it is called with, and what it answers.
CALLS = (
    ("meets", (2, 3, [1, 1, 1, -1, 0, 0], [1, 2]), [1]),
    ("meets", (2, 3, [1, 1, 1, -1, 0, 0], [2, 2]), [0]),
    ("meets", (3, 2, CUBE, [2, -2, 1]), [1]),
    ("meets", (3, 2, CUBE, [2, -3, 1]), [0]),
    ("meets", (1, 1, [], [0]), [1]),
    ("meets", (2, 3, [1, 1], [1, 2]), [-1]),
    ("meets", (1, 1, [1, GREATEST], [0]), [-1]),
    ("can", (3, CUBE + [-1, -1, -1, -3]), [1]),
    ("can", (3, CUBE + [-1, -1, -1, -4]), [0]),
    ("can", (1, [1, 1, -1, -2]), [0]),
    ("can", (2, []), [1]),
    ("can", (2, [1]), [-1]),
    ("can", (-1, []), [-1]),
    ("refutes", (1, [1, 1, -1, -2], [3, 3]), [1]),
    ("refutes", (1, [1, 1, -1, -2], [3, 2]), [0]),
    ("refutes", (3, CUBE + [-1, -1, -1, -4], [1, 0, 1, 0, 1, 0, 1]), [1]),
    ("refutes", (2, [], []), [0]),
    ("refutes", (2, [], [0]), [-1]),
    ("refutes", (1, [1, 1], [-1]), [-1]),
    ("drop", (2, 0, [0, 1, 2, 2, 3, 4, -1, 5, 6]), [2, 0, 1, 2, 0, 13, 16]),
    ("drop", (3, 2, CUBE), [5] + CUBE[:16] + [0, 0, 0, 2]),
    ("drop", (1, 0, [0, 5]), [1, 0, 5]),
    ("drop", (1, 0, [1, 5]), [0]),
    ("drop", (2, 1, []), [0]),
    ("drop", (2, 2, []), [-1]),
    ("drop", (2, 0, [1, 2]), [-1]),
    ("corners", (2, [-1, 0, 0, 0, -1, 0, 4, 3, 6]), [3, 0, 0, 1, 0, 2, 1, 3, 0, 2]),
    ("corners", (3, CUBE[:4] + CUBE[8:12] + CUBE[16:20]), [1, 1, 1, 1, 1]),
    ("corners", (3, CUBE[:16]), [0]),
    ("corners", (1, []), [0]),
    ("corners", (1, [1]), [-1]),
    ("corners", (4, []), [-1]),
    ("best", (2, [-1, 0, 0, 0, -1, 0, 4, 3, 6], [3, 1]), [1, 9, 2]),
    ("best", (3, CUBE, [-3, 2, 0]), [1, 5, 1]),
    ("best", (3, CUBE + [-1, -1, -1, -4], [1, 0, 0]), [0]),
    ("best", (3, CUBE[:16], [0, 0, 1]), [2]),
    ("best", (2, [], [0, 0]), [1, 0, 1]),
    ("best", (2, [], [0]), [-1]),
    ("best", (2, [], [0, 1001]), [-1]),
    ("between", (1, [4, -2, 0], [3]), [1]),
    ("between", (2, [0, 0, 3, 0, 0, 3], [1, 1]), [1]),
    ("between", (2, [0, 0, 3, 0, 0, 3], [2, 2]), [0]),
    ("between", (3, [0, 0, 0, 4, 0, 0, 0, 4, 0, 0, 0, 4, 1, 1, 1, 2, 2, 0], [1, 1, 2]), [1]),
    ("between", (3, [0, 0, 0, 4, 0, 0, 0, 4, 0, 0, 0, 4, 1, 1, 1, 2, 2, 0], [1, 2, 2]), [0]),
    ("between", (2, [], [0, 0]), [-1]),
    ("between", (2, [0, 0, 1], [0, 0]), [-1]),
    ("between", (0, [], []), [-1]),
    ("parts", (1, [4, -2, 0], [5], [1, 4]), [1]),
    ("parts", (1, [4, -2, 0], [5], [1, 5]), [0]),
    ("parts", (3, [0, 0, 0, 4, 0, 0, 0, 4, 0], [2, 2, 1], [1, 1, 1, 4]), [1]),
    ("parts", (3, [0, 0, 0, 4, 0, 0, 0, 4, 0], [2, 2, 1], [1, 1, 1, 3]), [0]),
    ("parts", (2, [0, 0], [1, 1], [1, 0]), [-1]),
    ("parts", (2, [0, 0], [1, 1], [1, 0, -1001]), [-1]),
)

PARAMETERS = {
    "meets": ["d", "q", "sides", "x"],
    "can": ["d", "sides"],
    "refutes": ["d", "sides", "y"],
    "drop": ["d", "k", "sides"],
    "corners": ["d", "sides"],
    "best": ["d", "sides", "c"],
    "between": ["d", "points", "x"],
    "parts": ["d", "points", "x", "side"],
}


def copied(given, kind):
    return [kind(value) if isinstance(value, list) else value for value in given]


class Interface(unittest.TestCase):
    def test_names_of_arguments(self):
        for name, names in PARAMETERS.items():
            self.assertEqual(list(inspect.signature(getattr(desk, name)).parameters), names)
            for called, given, answer in CALLS:
                if called == name:
                    self.assertEqual(getattr(desk, name)(**dict(zip(names, copied(given, list)))), answer)

    def test_kinds_of_answers(self):
        for name, given, answer in CALLS:
            told = getattr(desk, name)(*copied(given, list))
            self.assertEqual(told, answer, (name, given))
            self.assertIs(type(told), list)
            for number in told:
                self.assertIs(type(number), int)

    def test_nothing_is_changed(self):
        for name, given, answer in CALLS:
            handed = copied(given, Held)
            self.assertEqual(getattr(desk, name)(*handed), answer, (name, given))
            self.assertEqual(handed, list(given))

    def test_one_list_handed_in_twice(self):
        row = Held([2, 1])
        self.assertEqual(desk.meets(1, 1, row[:2], row[:1]), [0])
        self.assertEqual(desk.refutes(1, row, row), [-1])
        row = Held([])
        self.assertEqual(desk.meets(1, 1, row, row), [-1])
        self.assertEqual(desk.refutes(1, row, row), [0])
        self.assertEqual(desk.best(1, row, row), [-1])
        row = Held([2])
        self.assertEqual(desk.between(1, row, row), [1])
        self.assertEqual(desk.parts(1, row, row, row), [-1])
        row = Held([2, 1])
        self.assertEqual(desk.between(2, row, row), [1])
        self.assertEqual(desk.parts(1, row, row[:1], row), [0])

    def test_nothing_is_kept(self):
        for turn in range(3):
            for name, given, answer in CALLS if turn % 2 else reversed(CALLS):
                for _ in range(2):
                    told = getattr(desk, name)(*copied(given, list))
                    self.assertEqual(told, answer, (name, given))
                    told.append(5)  # what was given back is the caller's own
                    told[0] = 7

    def test_nothing_is_printed(self):
        out = io.StringIO()
        err = io.StringIO()
        with contextlib.redirect_stdout(out), contextlib.redirect_stderr(err):
            for name, given, _ in CALLS:
                getattr(desk, name)(*copied(given, list))
        self.assertEqual(out.getvalue() + err.getvalue(), "")


if __name__ == "__main__":
    unittest.main()
