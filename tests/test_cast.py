"""cast: the number of the chart whose mothers come of sixteen marks (The calls)."""

import unittest

from helper import LARGEST, ask, cast, chart, drop, figure, last, like, points, read

ZEROS = [0] * 16


def with_mark(at, mark, others=0):
    return [mark if number == at else others for number in range(16)]


class Cast(unittest.TestCase):
    def test_all_even(self):
        for mark in (0, 2, 10, 65536, LARGEST - 1):
            self.assertEqual(ask(cast([mark] * 16)), [[0]])

    def test_all_odd(self):
        for mark in (1, 3, 11, 65535, LARGEST):
            self.assertEqual(ask(cast([mark] * 16)), [[65535]])

    def test_one_odd_mark(self):
        for mother in range(4):
            for row in range(4):
                for mark in (1, 7, LARGEST):
                    with self.subTest(mother=mother, row=row, mark=mark):
                        number = (8, 4, 2, 1)[row] * 16 ** (3 - mother)
                        self.assertEqual(ask(cast(with_mark(4 * mother + row, mark))), [[number]])

    def test_one_even_mark(self):
        for at in range(16):
            for mark in (0, 8, LARGEST - 1):
                with self.subTest(at=at, mark=mark):
                    self.assertEqual(ask(cast(with_mark(at, mark, 5))), [[65535 - 32768 // 2 ** at]])

    def test_mothers_told_by_hand(self):
        marks = [0, 0, 0, 1] + [4, 2, 3, 0] + [12, 6, 5, 9] + [LARGEST - 1, LARGEST, 20, 30]
        self.assertEqual(ask(cast(marks)), [[0x1234]])
        self.assertEqual(ask(cast(list(range(16)))), [[0x5555]])
        self.assertEqual(ask(cast(list(range(1, 17)))), [[0xAAAA]])
        self.assertEqual(ask(cast([1, 0, 0, 0] + [0, 1, 0, 0] + [0, 0, 1, 0] + [0, 0, 0, 1])), [[0x8421]])

    def test_the_mothers_of_the_chart_it_names(self):
        marks = [13, 6, 7, 7, 2, 2, 9, 4, 15, 1, 1, 8, 0, 3, 0, 5]
        number = last(cast(marks))[0]
        self.assertEqual(last(read(number))[1:5], [11, 2, 14, 5])

    def test_marks_are_no_calls(self):
        self.assertEqual(ask(cast([10] * 16), cast([5] * 16), cast(ZEROS), drop(0)), [[0], [65535], [0], [-2]])


class SignsStay(unittest.TestCase):
    def test_it_is_no_sign(self):
        self.assertEqual(ask(cast([1] * 16), drop(0), points(0, 0, 1)), [[65535], [-2], [32768]])

    def test_signs_do_not_matter_to_it_and_stay(self):
        told = ask(figure(0, 0), cast([1] * 16), chart(4095), chart(4096), drop(4), drop(3))
        last_chart = [0, 0, 15, 15, 15, 7, 7, 7, 7, 15, 0, 0, 0, 15, 0, 15, 15]
        self.assertEqual(told, [[4096], [65535], last_chart, [-3], [-2], [8192]])

    def test_where_no_chart_agrees(self):
        self.assertEqual(ask(like(0, 0, 0, 0), cast(with_mark(15, 1)), drop(0)), [[0], [1], [65536]])


if __name__ == "__main__":
    unittest.main()
