"""What the interface says of every call: kinds, nothing changed, kept, printed, read or imported, no deep nesting."""

import ast
import contextlib
import inspect
import io
import pathlib
import sys
import unittest

import drawnglass
from drawnglass import desk
from tests.texts import bytes_of, rungs, star, text_of

CALLS = (desk.judge, desk.size)

TEXTS = (
    [],
    bytes_of("sign A\n"),
    bytes_of("sign A\nstroke 0,0 4096,0\n"),
    text_of([[(0, 0), (0, 0)]]),
    text_of([[(0, 0), (4, 4)], [(0, 4), (4, 0)]]),
    text_of(rungs(64)),
    text_of(rungs(65)),
    text_of(star(8)),
    text_of(star(9)),
    [10] * 65536,
    [10] * 65537,
)


# A list that can be read but fails on every change, even one that's taken back again.
class Untouchable(list):
    def refuse(self, *args, **kwargs):
        raise AssertionError("what is handed in was changed")

    append = clear = extend = insert = pop = remove = reverse = sort = refuse
    __setitem__ = __delitem__ = __iadd__ = __imul__ = refuse


def depth():
    frame = sys._getframe()
    many = 0
    while frame is not None:
        many += 1
        frame = frame.f_back
    return many


class Interface(unittest.TestCase):
    def test_arguments(self):
        for call in CALLS:
            self.assertEqual(list(inspect.signature(call).parameters), ["t"])

    def test_what_is_given_back(self):
        for call in CALLS:
            for text in TEXTS:
                answer = call(text)
                self.assertIs(type(answer), list)
                self.assertTrue(all(type(number) is int for number in answer))
                lengths = {0: 1, -6: 4, -2: 1} if call is desk.judge else {0: 5, -6: 1, -2: 1}
                self.assertEqual(len(answer), lengths[answer[0]])

    def test_what_is_handed_in_is_not_changed(self):
        for call in CALLS:
            for text in TEXTS:
                handed = list(text)
                call(handed)
                self.assertEqual(handed, text)
                self.assertEqual(call(Untouchable(text)), call(text))

    def test_nothing_is_kept(self):
        for call in CALLS:
            alone = [call(text) for text in TEXTS]
            for first, answer in zip(TEXTS, alone):
                for second, other in zip(TEXTS, alone):
                    self.assertEqual(call(first), answer)
                    self.assertEqual(call(second), other)

    def test_a_changed_answer_changes_no_later_one(self):
        for call in CALLS:
            for text in TEXTS:
                wanted = list(call(text))
                answer = call(text)
                answer.append(7)
                answer[0] = 99
                self.assertEqual(call(text), wanted)

    def test_nothing_is_printed(self):
        out, err = io.StringIO(), io.StringIO()
        with contextlib.redirect_stdout(out), contextlib.redirect_stderr(err):
            for call in CALLS:
                for text in TEXTS:
                    call(text)
        self.assertEqual((out.getvalue(), err.getvalue()), ("", ""))

    def test_calls_are_not_nested_deep(self):
        long = [
            text_of([[(x, x % 2) for x in range(65)]]),
            text_of(rungs(64)),
            bytes_of("sign A\nstroke 1,1 0," + "9" * 65000 + "\n"),
            bytes_of("sign A\nstroke" + " 1,1" * 16000 + "\n"),
            [10] * 65536,
            [32] * 65536,
        ]
        limit = sys.getrecursionlimit()
        sys.setrecursionlimit(depth() + 30)
        try:
            answers = [call(text) for call in CALLS for text in long]
        finally:
            sys.setrecursionlimit(limit)
        self.assertEqual(len(answers), 12)


class Package(unittest.TestCase):
    def test_only_its_own_modules_are_imported_and_nothing_is_read(self):
        for path in sorted(pathlib.Path(drawnglass.__file__).parent.glob("*.py")):
            for node in ast.walk(ast.parse(path.read_text("ascii"))):
                self.assertNotIsInstance(node, ast.Import)
                if isinstance(node, ast.ImportFrom):
                    self.assertTrue(node.level == 0 and node.module.startswith("drawnglass."), path)
                if isinstance(node, ast.Name):
                    self.assertNotIn(node.id, ("print", "open", "input", "exec", "eval", "__import__"), path)


if __name__ == "__main__":
    unittest.main()
