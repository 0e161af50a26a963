"""points, figure, like: what is refused, and that all is as it was then (The calls, point 1)."""

import unittest

from helper import LARGEST, ask, chart, clears, drop, figure, last, like, points

NO_PLACES = (16, 17, 255, 65536, 4294967280, LARGEST)
NO_ROWS = (4, 5, 16, 65536, 4294967292, LARGEST)
NO_FIGURES = (16, 17, 31, 65536, 4294967280, LARGEST)
NO_DOTS = (0, 3, 4, 65537, LARGEST)
NO_ALIKE = (2, 3, 65536, LARGEST)

WRONG = (
    [points(place, 0, 1) for place in NO_PLACES]
    + [points(0, row, 1) for row in NO_ROWS]
    + [points(0, 0, dots) for dots in NO_DOTS]
    + [points(LARGEST, LARGEST, LARGEST)]
    + [figure(place, 0) for place in NO_PLACES]
    + [figure(0, form) for form in NO_FIGURES]
    + [figure(LARGEST, LARGEST)]
    + [like(place, 0, 0, 1) for place in NO_PLACES]
    + [like(0, place, 0, 1) for place in NO_PLACES]
    + [like(place, place, 0, 1) for place in NO_PLACES]
    + [like(0, 1, row, 1) for row in NO_ROWS]
    + [like(0, 1, 0, alike) for alike in NO_ALIKE]
    + [like(LARGEST, LARGEST, LARGEST, LARGEST)]
)

# Any sign that all charts agree with; so the count stays and only the number of signs grows.
IDLE = like(0, 0, 0, 1)


class WrongNumbers(unittest.TestCase):
    def test_each_is_refused(self):
        for call in WRONG:
            with self.subTest(call=call):
                self.assertEqual(ask(call), [[-1]])

    def test_all_is_as_it_was(self):
        for call in WRONG:
            with self.subTest(call=call):
                told = ask(points(3, 3, 1), call, chart(0), chart(32768), drop(1), drop(0), drop(0))
                first = [0, 0, 0, 0, 1, 0, 0, 0, 1, 0, 1, 0, 1, 1, 1, 0, 0]
                self.assertEqual(told, [[32768], [-1], first, [-3], [-2], [65536], [-2]])

    def test_the_edges_are_taken(self):
        for place in (0, 15):
            for row in (0, 3):
                for dots in (1, 2):
                    self.assertEqual(ask(points(place, row, dots)), [[32768]])
                for alike in (0, 1):
                    self.assertEqual(ask(like(place, 15 - place, row, alike)), [[32768]])
            for form in (0, 15):
                self.assertEqual(ask(figure(place, form)), [[4096]])


class TooManySigns(unittest.TestCase):
    def test_24_signs_and_one_more(self):
        for call in (points(0, 0, 1), points(15, 3, 2), like(0, 15, 3, 0), like(2, 2, 2, 1), figure(0, 0)):
            with self.subTest(call=call):
                self.assertEqual(ask(*[IDLE] * 24, call), [[65536]] * 24 + [[-5]])

    def test_the_24th_of_each_kind(self):
        self.assertEqual(last(*[IDLE] * 23, points(0, 0, 1)), [32768])
        self.assertEqual(last(*[IDLE] * 23, like(0, 1, 0, 0)), [32768])
        self.assertEqual(last(*[IDLE] * 20, figure(0, 0)), [4096])

    def test_six_figures(self):
        six = [figure(place, 0) for place in range(10, 16)]
        self.assertEqual(last(*six, figure(0, 0)), [-5])
        self.assertEqual(last(*six, points(0, 0, 2)), [-5])
        self.assertEqual(last(*six, like(0, 0, 0, 1)), [-5])

    def test_figure_where_fewer_than_four_are_left(self):
        for signs in (21, 22, 23, 24):
            with self.subTest(signs=signs):
                told = ask(*[IDLE] * signs, figure(7, 3), *[IDLE] * (24 - signs), IDLE, drop(24), drop(23))
                self.assertEqual(told[signs], [-5])
                # None of the four was taken: what was left is left still, and all charts agree.
                self.assertEqual(told[signs + 1:], [[65536]] * (24 - signs) + [[-5], [-2], [65536]])

    def test_all_is_as_it_was(self):
        signs = [IDLE] * 23 + [points(3, 3, 1)]
        for call in (points(0, 0, 1), figure(0, 15), like(0, 0, 0, 0)):
            with self.subTest(call=call):
                told = ask(*signs, call, chart(0), chart(32768), drop(24), drop(23), drop(23), drop(22))
                first = [0, 0, 0, 0, 1, 0, 0, 0, 1, 0, 1, 0, 1, 1, 1, 0, 0]
                self.assertEqual(told[24:], [[-5], first, [-3], [-2], [65536], [-2], [65536]])

    def test_also_where_no_chart_agrees(self):
        self.assertEqual(last(like(0, 0, 0, 0), *[IDLE] * 23, IDLE), [-5])

    def test_clears_makes_room(self):
        self.assertEqual(ask(*[figure(0, 0)] * 6, figure(0, 0), clears(), figure(0, 0))[6:], [[-5], [0], [4096]])


class SeveralRefusals(unittest.TestCase):
    def test_a_wrong_number_is_told_before_too_many_signs(self):
        for call in WRONG:
            with self.subTest(call=call):
                self.assertEqual(last(*[figure(0, 0)] * 6, call), [-1])

    def test_also_for_figure_where_fewer_than_four_are_left(self):
        self.assertEqual(last(*[IDLE] * 21, figure(16, 0)), [-1])
        self.assertEqual(last(*[IDLE] * 21, figure(0, 16)), [-1])


if __name__ == "__main__":
    unittest.main()
