"""sandfigures.sand.answers: how calls and answers stand in their lists, and what it leaves alone (The interface)."""

import ast
import contextlib
import inspect
import io
import pathlib
import unittest

import sandfigures
from helper import LARGEST, cast, chart, clears, drop, figure, honest, like, may, points, read, sure
from sandfigures.sand import answers

MIXED = (
    points(14, 0, 1)
    + figure(0, 15)
    + like(15, 3, 2, 0)
    + chart(0)
    + chart(LARGEST)
    + sure()
    + may(15)
    + may(14)
    + may(LARGEST)
    + cast([LARGEST, 0, 7, 2, 4, 9, 6, 8, 1, 1, 1, 1, 0, 0, 0, 10])
    + read(0x8421)
    + read(65536)
    + honest()
    + drop(1)
    + points(14, 0, 2)
    + honest()
    + sure()
    + may(0)
    + points(16, 0, 1)
    + drop(LARGEST)
    + figure(3, 0)
    + figure(3, 0)
    + honest()
    + clears()
    + chart(65535)
    + honest()
)

ANSWERS_MIXED = (
    [1, 32768]
    + [1, 2048]
    + [1, 1024]
    + [17, 0, 15, 0, 1, 0, 8, 8, 8, 10, 15, 1, 0, 2, 14, 2, 12, 3]
    + [1, -3]
    + [33, 14]
    + [15, 0, 0, 0, 0, 0, 0, 0, 8, 0, 8, 0, 8, 0, 8, 0]
    + [0, 0, 0, 0, 0, 8, 0, 8, 8, 0, 0, 8, 8, 0, 0, 8]
    + [5, 4, 0, 3, 5, 6]
    + [5, 4, 9, 10, 12, 15]
    + [1, -1]
    + [1, 42224]
    + [20, 0, 8, 4, 2, 1, 8, 4, 2, 1, 12, 3, 12, 3, 15, 15, 0, 8, 8, 1, 14]
    + [1, -1]
    + [2, 0, 1024]
    + [1, 2048]
    + [1, 0]
    + [3, 1, 0, 2048]
    + [1, -6]
    + [1, -6]
    + [1, -1]
    + [1, -2]
    + [1, 0]
    + [1, 0]
    + [1, -7]
    + [1, 0]
    + [17, 0, 15, 15, 15, 15, 15, 15, 15, 15, 0, 0, 0, 0, 0, 0, 0, 15]
    + [2, 0, 65536]
)


class Watched(list):
    """A list that won't be changed, not for a while either."""

    def refuse(self, *unused, **unused_too):
        raise AssertionError("the list that was handed in is changed")

    append = extend = insert = remove = pop = clear = sort = reverse = refuse
    __setitem__ = __delitem__ = __iadd__ = __imul__ = refuse


class Lists(unittest.TestCase):
    def test_one_call_of_each_kind(self):
        self.assertEqual(answers([0]), [1, 0])
        self.assertEqual(answers([1, 0, 0, 1]), [1, 32768])
        self.assertEqual(answers([2, 0, 0]), [1, 4096])
        self.assertEqual(answers([3, 0, 1, 0, 1]), [1, 32768])
        self.assertEqual(answers([4, 0]), [1, -2])
        self.assertEqual(answers([5, 0]), [17, 0] + [0] * 16)
        self.assertEqual(answers([6]), [33, 0] + [0] * 32)
        self.assertEqual(answers([7, 0]), [17, 16] + list(range(16)))
        self.assertEqual(answers([8, 16, 0, 0, 0, 1, 0, 0, 1, 0, 0, 0, 1, 1, 0, 1, 0, 0]), [1, 0x1234])
        self.assertEqual(answers([9, 65535]), [26, 0] + [15] * 8 + [0] * 7 + [15, 2, 7, 8, 9, 10, 11, 12, 13, 14])
        self.assertEqual(answers([10]), [2, 0, 65536])

    def test_several_calls_each_answer_behind_its_count(self):
        self.assertEqual(answers(MIXED), ANSWERS_MIXED)

    def test_forty_calls(self):
        self.assertEqual(answers(chart(0) * 40), ([17, 0] + [0] * 16) * 40)
        self.assertEqual(answers(like(0, 0, 0, 1) * 40), [1, 65536] * 24 + [1, -5] * 16)
        self.assertEqual(answers(sure() * 40), ([33, 0] + [0] * 32) * 40)
        self.assertEqual(answers(may(14) * 40), [9, 8, 0, 3, 5, 6, 9, 10, 12, 15] * 40)
        self.assertEqual(answers(cast([LARGEST] * 16) * 40), [1, 65535] * 40)
        self.assertEqual(answers(read(0) * 40), ([34, 0] + [0] * 16 + [1, 15] + list(range(15))) * 40)

    def test_all_calls_in_forty(self):
        # MIXED has 26 calls, four of them honest.
        seven = cast([6] * 16) + read(LARGEST) + drop(24) + may(16) + clears() + chart(65536) + points(0, 4, 1)
        told = [1, 0] + [1, -1] + [1, -2] + [1, -1] + [1, 0] + [1, -3] + [1, -1]
        self.assertEqual(answers(seven + MIXED + seven), told + ANSWERS_MIXED + told)

    def test_four_calls_of_honest_with_12_signs(self):
        signs = points(5, 1, 1) + points(5, 1, 2) + like(2, 2, 0, 0) + figure(14, 7) + points(5, 1, 1) + figure(0, 9)
        self.assertEqual(answers(signs + honest() * 4), [1, 32768] + [1, 0] * 5 + [5, 3, 1, 2, 3, 256] * 4)

    def test_whole_numbers_in_a_list(self):
        told = answers(MIXED)
        self.assertIs(type(told), list)
        self.assertEqual({type(number) for number in told}, {int})

    def test_its_argument(self):
        self.assertEqual(list(inspect.signature(answers).parameters), ["calls"])
        self.assertEqual(answers(calls=[0]), [1, 0])


class LeftAlone(unittest.TestCase):
    def test_what_is_handed_in_is_not_changed(self):
        calls = list(MIXED)
        answers(calls)
        self.assertEqual(calls, MIXED)

    def test_not_for_a_while_either(self):
        self.assertEqual(answers(Watched(MIXED)), ANSWERS_MIXED)

    def test_nothing_is_kept(self):
        first = answers(MIXED)
        self.assertEqual(answers(points(0, 0, 1)), [1, 32768])
        self.assertEqual(answers(drop(0)), [1, -2])
        again = answers(MIXED)
        self.assertEqual(again, first)
        first.clear()
        self.assertEqual(answers(MIXED), ANSWERS_MIXED)

    def test_the_answers_are_a_new_list(self):
        calls = [0]
        self.assertIsNot(answers(calls), calls)
        self.assertIsNot(answers(calls), answers(calls))

    def test_it_prints_nothing(self):
        printed = io.StringIO()
        with contextlib.redirect_stdout(printed), contextlib.redirect_stderr(printed):
            answers(MIXED)
        self.assertEqual(printed.getvalue(), "")

    def test_it_imports_nothing(self):
        files = sorted(pathlib.Path(sandfigures.__file__).parent.glob("*.py"))
        self.assertIn("sand.py", [file.name for file in files])
        for file in files:
            nodes = list(ast.walk(ast.parse(file.read_text(encoding="ascii"))))
            self.assertEqual([node for node in nodes if isinstance(node, (ast.Import, ast.ImportFrom))], [])
            names = {node.id for node in nodes if isinstance(node, ast.Name)}
            self.assertEqual(names & {"print", "open", "input", "__import__", "eval", "exec"}, set())


if __name__ == "__main__":
    unittest.main()
