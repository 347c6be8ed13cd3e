"""What the interface says of every call: names, kinds, and that nothing is changed, kept or printed."""

import contextlib
import inspect
import io
import os
import pathlib
import subprocess
import sys
import unittest

from kit import GREATEST, Held
from sidesleft import desk

CUBE = [1, 0, 0, 1, -1, 0, 0, 1, 0, 1, 0, 1, 0, -1, 0, 1, 0, 0, 1, 1, 0, 0, -1, 1]

# A call's name, what it is called with, and what it answers.
CALLS = (
    ("meets", (2, 3, [1, 1, 1, -1, 0, 0], [1, 2]), [1]),
    ("meets", (2, 3, [1, 1, 1, -1, 0, 0], [2, 2]), [0]),
    ("meets", (3, 2, CUBE, [2, -2, 1]), [1]),
    ("meets", (3, 2, CUBE, [2, -3, 1]), [0]),
    ("meets", (1, 1, [], [0]), [1]),
    ("meets", (2, 3, [1, 1], [1, 2]), [-1]),
    ("meets", (1, 1, [1, GREATEST], [0]), [-1]),
    ("can", (3, CUBE + [-1, -1, -1, -3]), [1]),
    ("can", (3, CUBE + [-1, -1, -1, -4]), [0]),
    ("can", (1, [1, 1, -1, -2]), [0]),
    ("can", (2, []), [1]),
    ("can", (2, [1]), [-1]),
    ("can", (-1, []), [-1]),
    ("refutes", (1, [1, 1, -1, -2], [3, 3]), [1]),
    ("refutes", (1, [1, 1, -1, -2], [3, 2]), [0]),
    ("refutes", (3, CUBE + [-1, -1, -1, -4], [1, 0, 1, 0, 1, 0, 1]), [1]),
    ("refutes", (2, [], []), [0]),
    ("refutes", (2, [], [0]), [-1]),
    ("refutes", (1, [1, 1], [-1]), [-1]),
    ("drop", (2, 0, [0, 1, 2, 2, 3, 4, -1, 5, 6]), [2, 0, 1, 2, 0, 13, 16]),
    ("drop", (3, 2, CUBE), [5] + CUBE[:16] + [0, 0, 0, 2]),
    ("drop", (1, 0, [0, 5]), [1, 0, 5]),
    ("drop", (1, 0, [1, 5]), [0]),
    ("drop", (2, 1, []), [0]),
    ("drop", (2, 2, []), [-1]),
    ("drop", (2, 0, [1, 2]), [-1]),
    ("corners", (2, [-1, 0, 0, 0, -1, 0, 4, 3, 6]), [3, 0, 0, 1, 0, 2, 1, 3, 0, 2]),
    ("corners", (3, CUBE[:4] + CUBE[8:12] + CUBE[16:20]), [1, 1, 1, 1, 1]),
    ("corners", (3, CUBE[:16]), [0]),
    ("corners", (1, []), [0]),
    ("corners", (1, [1]), [-1]),
    ("corners", (4, []), [-1]),
    ("best", (2, [-1, 0, 0, 0, -1, 0, 4, 3, 6], [3, 1]), [1, 9, 2]),
    ("best", (3, CUBE, [-3, 2, 0]), [1, 5, 1]),
    ("best", (3, CUBE + [-1, -1, -1, -4], [1, 0, 0]), [0]),
    ("best", (3, CUBE[:16], [0, 0, 1]), [2]),
    ("best", (2, [], [0, 0]), [1, 0, 1]),
    ("best", (2, [], [0]), [-1]),
    ("best", (2, [], [0, 1001]), [-1]),
    ("between", (1, [4, -2, 0], [3]), [1]),
    ("between", (2, [0, 0, 3, 0, 0, 3], [1, 1]), [1]),
    ("between", (2, [0, 0, 3, 0, 0, 3], [2, 2]), [0]),
    ("between", (3, [0, 0, 0, 4, 0, 0, 0, 4, 0, 0, 0, 4, 1, 1, 1, 2, 2, 0], [1, 1, 2]), [1]),
    ("between", (3, [0, 0, 0, 4, 0, 0, 0, 4, 0, 0, 0, 4, 1, 1, 1, 2, 2, 0], [1, 2, 2]), [0]),
    ("between", (2, [], [0, 0]), [-1]),
    ("between", (2, [0, 0, 1], [0, 0]), [-1]),
    ("between", (0, [], []), [-1]),
    ("parts", (1, [4, -2, 0], [5], [1, 4]), [1]),
    ("parts", (1, [4, -2, 0], [5], [1, 5]), [0]),
    ("parts", (3, [0, 0, 0, 4, 0, 0, 0, 4, 0], [2, 2, 1], [1, 1, 1, 4]), [1]),
    ("parts", (3, [0, 0, 0, 4, 0, 0, 0, 4, 0], [2, 2, 1], [1, 1, 1, 3]), [0]),
    ("parts", (2, [0, 0], [1, 1], [1, 0]), [-1]),
    ("parts", (2, [0, 0], [1, 1], [1, 0, -1001]), [-1]),
    ("gives", (1, [4, -2, 0], [3], [5, 1, 0]), [1]),
    ("gives", (1, [4, -2, 0], [3], [5, 0, 1]), [0]),
    ("gives", (3, [0, 0, 0, 4, 0, 0, 0, 4, 0, 0, 0, 4], [1, 0, 2], [1, 1, 0, 2]), [1]),
    ("gives", (3, [0, 0, 0, 4, 0, 0, 0, 4, 0, 0, 0, 4], [1, 0, 2], [1, 1, 1, 2]), [0]),
    ("gives", (2, [0, 0, 0, 0], [0, 0], [0, 0]), [0]),
    ("gives", (2, [0, 0, 0, 0], [0, 0], [1, 0, 0]), [-1]),
    ("gives", (2, [0, 0, 0, 0], [0, 0], [1, -1]), [-1]),
)

PARAMETERS = {
    "meets": ["d", "q", "sides", "x"],
    "can": ["d", "sides"],
    "refutes": ["d", "sides", "y"],
    "drop": ["d", "k", "sides"],
    "corners": ["d", "sides"],
    "best": ["d", "sides", "c"],
    "between": ["d", "points", "x"],
    "parts": ["d", "points", "x", "side"],
    "gives": ["d", "points", "x", "w"],
}

# As much as may be handed in: eight sides, of which four have each unknown above 0, and four below; and six points.
MANY_SIDES = [n for a in (1, -1) for b in (2, -2) for c in (3, -3) for n in (a * 1000, b * 499, c * 333, 997)]
MANY_POINTS = [1000, 3, -8, -1000, 5, 7, 2, 999, -1, 4, -998, 6, -5, 1, 997, 9, -6, -996]

LONGEST = (
    ("meets", (3, 1000, MANY_SIDES, [1, 2, 3])),
    ("can", (3, MANY_SIDES)),
    ("refutes", (3, MANY_SIDES, [1000000000] * 8)),
    ("drop", (3, 1, MANY_SIDES)),
    ("corners", (3, MANY_SIDES)),
    ("best", (3, MANY_SIDES, [1000, -999, 998])),
    ("between", (3, MANY_POINTS, [1, 2, 3])),
    ("parts", (3, MANY_POINTS, [1, 2, 3], [1000, 999, 998, 997])),
    ("gives", (3, MANY_POINTS, [1, 2, 3], [1000000000] * 6)),
)


def copied(given, kind):
    return [kind(value) if isinstance(value, list) else value for value in given]


class Interface(unittest.TestCase):
    def test_all_nine(self):
        self.assertEqual(len(PARAMETERS), 9)
        for name in PARAMETERS:
            answers = [answer[0] for called, _, answer in CALLS if called == name]
            self.assertIn(-1, answers, name)
            self.assertGreater(len(set(answers)), 2, name)
        self.assertEqual({name for name, _, _ in CALLS}, set(PARAMETERS))
        self.assertEqual([name for name, _ in LONGEST], list(PARAMETERS))

    def test_names_of_arguments(self):
        for name, names in PARAMETERS.items():
            self.assertEqual(list(inspect.signature(getattr(desk, name)).parameters), names)
            for called, given, answer in CALLS:
                if called == name:
                    self.assertEqual(getattr(desk, name)(**dict(zip(names, copied(given, list)))), answer)

    def test_kinds_of_answers(self):
        for name, given, answer in CALLS:
            told = getattr(desk, name)(*copied(given, list))
            self.assertEqual(told, answer, (name, given))
            self.assertIs(type(told), list)
            for number in told:
                self.assertIs(type(number), int)

    def test_nothing_is_changed(self):
        for name, given, answer in CALLS:
            handed = copied(given, Held)
            self.assertEqual(getattr(desk, name)(*handed), answer, (name, given))
            self.assertEqual(handed, list(given))

    def test_one_list_handed_in_twice(self):
        row = Held([2, 1])
        self.assertEqual(desk.meets(1, 1, row[:2], row[:1]), [0])
        self.assertEqual(desk.refutes(1, row, row), [-1])
        row = Held([])
        self.assertEqual(desk.meets(1, 1, row, row), [-1])
        self.assertEqual(desk.refutes(1, row, row), [0])
        self.assertEqual(desk.best(1, row, row), [-1])
        row = Held([2])
        self.assertEqual(desk.between(1, row, row), [1])
        self.assertEqual(desk.parts(1, row, row, row), [-1])
        row = Held([2, 1])
        self.assertEqual(desk.between(2, row, row), [1])
        self.assertEqual(desk.parts(1, row, row[:1], row), [0])
        row = Held([2])
        self.assertEqual(desk.gives(1, row, row, row), [1])
        row = Held([2, 2])
        self.assertEqual(desk.gives(1, row, row[:1], row), [1])
        self.assertEqual(desk.gives(2, row, row, row), [-1])

    def test_nothing_is_kept(self):
        for turn in range(3):
            for name, given, answer in CALLS if turn % 2 else reversed(CALLS):
                for _ in range(2):
                    told = getattr(desk, name)(*copied(given, list))
                    self.assertEqual(told, answer, (name, given))
                    told.append(5)  # what was given back is the caller's own
                    told[0] = 7

    def test_others_between(self):
        for name, given, answer in CALLS:
            handed = copied(given, list)
            for other, given_too, _ in CALLS:
                told = getattr(desk, name)(*handed)
                self.assertEqual(told, answer, (name, given, other))
                told.clear()
                getattr(desk, other)(*copied(given_too, list))
            self.assertEqual(handed, list(given), (name, given))

    def test_few_calls_within_one_another(self):
        before = sys.getrecursionlimit()
        firsts = [getattr(desk, name)(*given) for name, given in LONGEST]
        try:
            sys.setrecursionlimit(len(inspect.stack()) + 30)
            again = [getattr(desk, name)(*given) for name, given in LONGEST]
        finally:
            sys.setrecursionlimit(before)
        self.assertEqual(again, firsts)
        self.assertNotIn([-1], firsts)

    def test_nothing_else_is_imported(self):
        told = subprocess.run(
            [sys.executable, "-c", "import sys; before = set(sys.modules); import sidesleft.desk; "
                                   "print(sorted(set(sys.modules) - before))"],
            capture_output=True, text=True, check=True,
            env={**os.environ, "PYTHONPATH": str(pathlib.Path(desk.__file__).resolve().parent.parent)})
        self.assertEqual(told.stdout, "['sidesleft', 'sidesleft.desk', 'sidesleft.reckon']\n")
        self.assertEqual(told.stderr, "")

    def test_nothing_is_printed(self):
        out = io.StringIO()
        err = io.StringIO()
        with contextlib.redirect_stdout(out), contextlib.redirect_stderr(err):
            for name, given, _ in CALLS:
                getattr(desk, name)(*copied(given, list))
        self.assertEqual(out.getvalue() + err.getvalue(), "")


if __name__ == "__main__":
    unittest.main()
