"""What the interface says of every call: kinds, nothing changed, kept, printed, read or imported, no deep nesting."""

import ast
import contextlib
import inspect
import io
import pathlib
import sys
import unittest

import drawnglass
from drawnglass import desk
from tests.texts import LARGEST_NUMBER, NO_DRAWINGS, TOO_LONG, bytes_of, rungs, star, text_of

# Each call: its parameters.
CALLS = {
    desk.judge: ["t"],
    desk.size: ["t"],
    desk.piece: ["i", "t"],
    desk.joint: ["j", "t"],
    desk.ends: ["j", "t"],
    desk.part: ["i", "t"],
    desk.at: ["x", "y", "t"],
    desk.free: ["x", "y", "z", "w", "t"],
    desk.cross: ["x", "y", "z", "w", "p", "q", "r", "s"],
}

HOUSE = text_of([[(0, 0), (4, 0), (4, 4), (0, 4), (0, 0)], [(0, 4), (2, 6), (4, 4)], [(9, 9), (9, 8)]])
LINE = text_of([[(7, 0), (0, 7)]])
CROSSED = text_of([[(0, 0), (4, 4)], [(0, 4), (4, 0)]])

# Each row: a call, what it is handed, what it answers.
ANSWERED = [
    (desk.judge, [HOUSE], [0]),
    (desk.judge, [LINE], [0]),
    (desk.judge, [CROSSED], [-6, 5, 2, 1]),
    (desk.judge, [TOO_LONG[0]], [-2]),
    (desk.size, [HOUSE], [0, 3, 7, 7, 2]),
    (desk.size, [LINE], [0, 1, 1, 2, 1]),
    (desk.size, [CROSSED], [-6]),
    (desk.size, [TOO_LONG[0]], [-2]),
    (desk.piece, [5, HOUSE], [0, 2, 6, 4, 4, 4, 3]),
    (desk.piece, [0, LINE], [0, 7, 0, 0, 7, 0, 1]),
    (desk.piece, [5, LINE], [-4]),
    (desk.piece, [0, CROSSED], [-6]),
    (desk.piece, [0, TOO_LONG[0]], [-2]),
    (desk.joint, [3, HOUSE], [0, 4, 4, 3]),
    (desk.joint, [1, LINE], [0, 0, 7, 1]),
    (desk.joint, [3, LINE], [-4]),
    (desk.joint, [0, CROSSED], [-6]),
    (desk.joint, [0, TOO_LONG[0]], [-2]),
    (desk.ends, [3, HOUSE], [3, 1, 2, 5]),
    (desk.ends, [1, LINE], [1, 0]),
    (desk.ends, [3, LINE], [-4]),
    (desk.ends, [0, CROSSED], [-6]),
    (desk.ends, [0, TOO_LONG[0]], [-2]),
    (desk.part, [5, HOUSE], [0, 0, 1, 2, 3, 4, 5]),
    (desk.part, [6, HOUSE], [1, 6]),
    (desk.part, [0, LINE], [0, 0]),
    (desk.part, [6, LINE], [-4]),
    (desk.part, [0, CROSSED], [-6]),
    (desk.part, [0, TOO_LONG[0]], [-2]),
    (desk.at, [4, 4, HOUSE], [1]),
    (desk.at, [3, 5, HOUSE], [5]),
    (desk.at, [3, 4, LINE], [0]),
    (desk.at, [4, 4, LINE], [-5]),
    (desk.at, [4, 4096, LINE], [-1]),
    (desk.at, [4, 4, CROSSED], [-6]),
    (desk.at, [4, 4, TOO_LONG[0]], [-2]),
    (desk.free, [4, 4, 9, 9, HOUSE], [1]),
    (desk.free, [4, 4, 0, 0, HOUSE], [1]),
    (desk.free, [0, 3, 9, 9, HOUSE], [0]),
    (desk.free, [0, 3, 9, 9, LINE], [0]),
    (desk.free, [0, 8, 9, 9, LINE], [1]),
    (desk.free, [9, 9, 9, 9, LINE], [-1]),
    (desk.free, [0, 3, 9, 9, CROSSED], [-6]),
    (desk.free, [0, 3, 9, 9, TOO_LONG[0]], [-2]),
    (desk.cross, [0, 0, 4, 0, 0, 4, 4, 4], [0]),
    (desk.cross, [0, 0, 4, 0, 4, 0, 4, 4], [1]),
    (desk.cross, [0, 0, 4, 4, 0, 4, 4, 0], [2]),
    (desk.cross, [0, 0, 4, 4, 0, 4, 0, 4], [3]),
]

TEXTS = list(NO_DRAWINGS) + list(TOO_LONG) + [HOUSE, LINE, text_of(rungs(64)), text_of(star(8))]

LONG_TEXTS = [
    text_of([[(x, x % 2) for x in range(65)]]),
    text_of(rungs(64)),
    bytes_of("sign A\nstroke 1,1 0," + "9" * 65000 + "\n"),
    bytes_of("sign A\nstroke" + " 1,1" * 16000 + "\n"),
    [10] * 65536,
    [32] * 65536,
]

NUMBERS = [[0, 0, 5, 0, 0, 1, 5, 1], [1, 7, 2, 7, 1, 7, 2, 7], [LARGEST_NUMBER] * 8]


# All ways to call every call with one of these texts.
def calls_with(texts):
    for call, names in CALLS.items():
        many = len([name for name in names if name != "t"])
        for numbers in NUMBERS if many > 0 else NUMBERS[:1]:
            for text in texts if "t" in names else [None]:
                yield call, numbers[:many] + ([text] if "t" in names else [])


# A list that can be read but fails on every change, even one that's taken back again.
class Untouchable(list):
    def refuse(self, *args, **kwargs):
        raise AssertionError("what is handed in was changed")

    append = clear = extend = insert = pop = remove = reverse = sort = refuse
    __setitem__ = __delitem__ = __iadd__ = __imul__ = refuse


def depth():
    frame = sys._getframe()
    many = 0
    while frame is not None:
        many += 1
        frame = frame.f_back
    return many


class Interface(unittest.TestCase):
    def test_arguments(self):
        for call, names in CALLS.items():
            self.assertEqual(list(inspect.signature(call).parameters), names)

    def test_every_call_is_handed_something_here(self):
        self.assertEqual({call for call, handed, answer in ANSWERED}, set(CALLS))

    def test_what_is_given_back(self):
        for call, handed in calls_with(TEXTS):
            answer = call(*handed)
            self.assertIs(type(answer), list)
            self.assertTrue(all(type(number) is int for number in answer))
            if answer[0] < 0:
                self.assertEqual(len(answer), 4 if call is desk.judge and answer[0] == -6 else 1)

    def test_how_many_numbers_are_given_back(self):
        lengths = {desk.judge: 1, desk.size: 5, desk.piece: 7, desk.joint: 4, desk.at: 1, desk.free: 1, desk.cross: 1}
        for call, handed in calls_with([HOUSE, LINE, text_of(rungs(64)), text_of(star(8))]):
            answer = call(*handed)
            if call in lengths and answer[0] >= 0:
                self.assertEqual(len(answer), lengths[call])

    def test_what_is_handed_in_is_not_changed(self):
        for call, handed in calls_with(TEXTS):
            copies = [list(given) if isinstance(given, list) else given for given in handed]
            guarded = [Untouchable(given) if isinstance(given, list) else given for given in handed]
            answer = call(*copies)
            self.assertEqual(copies, handed)
            self.assertEqual(call(*guarded), answer)

    def test_nothing_is_kept(self):
        for first, handed_first, answer in ANSWERED:
            for second, handed_second, other in ANSWERED:
                self.assertEqual(first(*handed_first), answer)
                self.assertEqual(second(*handed_second), other)

    def test_a_list_that_is_changed_between_two_calls_is_read_anew(self):
        for call, handed in calls_with([HOUSE]):
            if "t" in CALLS[call]:
                text = list(HOUSE)
                self.assertEqual(call(*handed[:-1], text), call(*handed))
                text[:] = LINE
                self.assertEqual(call(*handed[:-1], text), call(*handed[:-1], LINE))

    def test_a_changed_answer_changes_no_later_one(self):
        for call, handed, wanted in ANSWERED:
            answer = call(*handed)
            answer.append(7)
            answer[0] = 99
            self.assertEqual(call(*handed), wanted)

    def test_nothing_is_printed(self):
        out, err = io.StringIO(), io.StringIO()
        with contextlib.redirect_stdout(out), contextlib.redirect_stderr(err):
            for call, handed in calls_with(TEXTS):
                call(*handed)
        self.assertEqual((out.getvalue(), err.getvalue()), ("", ""))

    def test_calls_are_not_nested_deep(self):
        ways = list(calls_with(LONG_TEXTS))
        limit = sys.getrecursionlimit()
        sys.setrecursionlimit(depth() + 30)
        try:
            answers = [call(*handed) for call, handed in ways]
        finally:
            sys.setrecursionlimit(limit)
        self.assertEqual(len(answers), len(ways))


class Package(unittest.TestCase):
    def test_only_its_own_modules_are_imported_and_nothing_is_read(self):
        for path in sorted(pathlib.Path(drawnglass.__file__).parent.glob("*.py")):
            for node in ast.walk(ast.parse(path.read_text("ascii"))):
                self.assertNotIsInstance(node, ast.Import)
                if isinstance(node, ast.ImportFrom):
                    self.assertTrue(node.level == 0 and node.module.startswith("drawnglass."), path)
                if isinstance(node, ast.Name):
                    self.assertNotIn(node.id, ("print", "open", "input", "exec", "eval", "__import__"), path)


if __name__ == "__main__":
    unittest.main()
