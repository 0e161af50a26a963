"""sandfigures.sand.answers: how calls and answers stand in their lists, and what it leaves alone (The interface)."""

import ast
import contextlib
import inspect
import io
import pathlib
import unittest

import sandfigures
from helper import LARGEST, chart, clears, drop, figure, like, points
from sandfigures.sand import answers

MIXED = (
    points(14, 0, 1)
    + figure(0, 15)
    + like(15, 3, 2, 0)
    + chart(0)
    + chart(LARGEST)
    + drop(1)
    + points(16, 0, 1)
    + drop(LARGEST)
    + clears()
    + chart(65535)
)

ANSWERS_MIXED = (
    [1, 32768]
    + [1, 2048]
    + [1, 1024]
    + [17, 0, 15, 0, 1, 0, 8, 8, 8, 10, 15, 1, 0, 2, 14, 2, 12, 3]
    + [1, -3]
    + [1, 2048]
    + [1, -1]
    + [1, -2]
    + [1, 0]
    + [17, 0, 15, 15, 15, 15, 15, 15, 15, 15, 0, 0, 0, 0, 0, 0, 0, 15]
)


class Watched(list):
    """A list that won't be changed, not for a while either."""

    def refuse(self, *unused, **unused_too):
        raise AssertionError("the list that was handed in is changed")

    append = extend = insert = remove = pop = clear = sort = reverse = refuse
    __setitem__ = __delitem__ = __iadd__ = __imul__ = refuse


class Lists(unittest.TestCase):
    def test_one_call_of_each_kind(self):
        self.assertEqual(answers([0]), [1, 0])
        self.assertEqual(answers([1, 0, 0, 1]), [1, 32768])
        self.assertEqual(answers([2, 0, 0]), [1, 4096])
        self.assertEqual(answers([3, 0, 1, 0, 1]), [1, 32768])
        self.assertEqual(answers([4, 0]), [1, -2])
        self.assertEqual(answers([5, 0]), [17, 0] + [0] * 16)

    def test_several_calls_each_answer_behind_its_count(self):
        self.assertEqual(answers(MIXED), ANSWERS_MIXED)

    def test_forty_calls(self):
        self.assertEqual(answers(chart(0) * 40), ([17, 0] + [0] * 16) * 40)
        self.assertEqual(answers(like(0, 0, 0, 1) * 40), [1, 65536] * 24 + [1, -5] * 16)

    def test_whole_numbers_in_a_list(self):
        told = answers(MIXED)
        self.assertIs(type(told), list)
        self.assertEqual({type(number) for number in told}, {int})

    def test_its_argument(self):
        self.assertEqual(list(inspect.signature(answers).parameters), ["calls"])
        self.assertEqual(answers(calls=[0]), [1, 0])


class LeftAlone(unittest.TestCase):
    def test_what_is_handed_in_is_not_changed(self):
        calls = list(MIXED)
        answers(calls)
        self.assertEqual(calls, MIXED)

    def test_not_for_a_while_either(self):
        self.assertEqual(answers(Watched(MIXED)), ANSWERS_MIXED)

    def test_nothing_is_kept(self):
        first = answers(MIXED)
        self.assertEqual(answers(points(0, 0, 1)), [1, 32768])
        self.assertEqual(answers(drop(0)), [1, -2])
        again = answers(MIXED)
        self.assertEqual(again, first)
        first.clear()
        self.assertEqual(answers(MIXED), ANSWERS_MIXED)

    def test_the_answers_are_a_new_list(self):
        calls = [0]
        self.assertIsNot(answers(calls), calls)
        self.assertIsNot(answers(calls), answers(calls))

    def test_it_prints_nothing(self):
        printed = io.StringIO()
        with contextlib.redirect_stdout(printed), contextlib.redirect_stderr(printed):
            answers(MIXED)
        self.assertEqual(printed.getvalue(), "")

    def test_it_imports_nothing(self):
        files = sorted(pathlib.Path(sandfigures.__file__).parent.glob("*.py"))
        self.assertIn("sand.py", [file.name for file in files])
        for file in files:
            nodes = list(ast.walk(ast.parse(file.read_text(encoding="ascii"))))
            self.assertEqual([node for node in nodes if isinstance(node, (ast.Import, ast.ImportFrom))], [])
            names = {node.id for node in nodes if isinstance(node, ast.Name)}
            self.assertEqual(names & {"print", "open", "input", "__import__", "eval", "exec"}, set())


if __name__ == "__main__":
    unittest.main()
