"""may: the figures that can stand at a place (The calls, point 3)."""

import unittest

from helper import LARGEST, ask, chart, clears, drop, figure, figures_of, last, like, may, points, sure

MOTHERS_1234 = [figure(0, 1), figure(1, 2), figure(2, 3), figure(3, 4)]
ALL_FIGURES = [16] + list(range(16))
EVEN = [8, 0, 3, 5, 6, 9, 10, 12, 15]
ODD = [8, 1, 2, 4, 7, 8, 11, 13, 14]
NO_PLACES = (16, 17, 31, 255, 65536, 4294967280, LARGEST)
CONTRADICTIONS = ([like(4, 4, 1, 0)], [figure(14, 7)], [points(8, 0, 1), points(8, 0, 2)])


class May(unittest.TestCase):
    def test_no_sign(self):
        told = ask(*[may(place) for place in range(16)])
        self.assertEqual(told, [ALL_FIGURES] * 14 + [EVEN] + [ALL_FIGURES])

    def test_one_figure_alone(self):
        for place in (0, 3, 4, 7, 8, 11, 12, 13, 14, 15):
            for form in (0, 3, 6, 15):
                with self.subTest(place=place, form=form):
                    self.assertEqual(last(figure(place, form), may(place)), [1, form])

    def test_one_chart_alone(self):
        told = ask(*MOTHERS_1234, *[may(place) for place in range(16)])
        self.assertEqual(told[4:], [[1, form] for form in figures_of(0x1234)])

    def test_one_row_that_is_told(self):
        for place in (0, 5, 10, 13, 15):
            with self.subTest(place=place):
                self.assertEqual(last(points(place, 0, 1), may(place)), [8, 8, 9, 10, 11, 12, 13, 14, 15])
                self.assertEqual(last(points(place, 0, 2), may(place)), [8, 0, 1, 2, 3, 4, 5, 6, 7])
                self.assertEqual(last(points(place, 3, 1), may(place)), [8, 1, 3, 5, 7, 9, 11, 13, 15])
                self.assertEqual(last(points(place, 3, 2), points(place, 1, 1), may(place)), [4, 4, 6, 12, 14])

    def test_a_daughters_rows_are_the_mothers(self):
        self.assertEqual(last(points(0, 0, 1), may(4)), [8, 8, 9, 10, 11, 12, 13, 14, 15])
        self.assertEqual(last(points(3, 2, 2), may(6)), [8, 0, 2, 4, 6, 8, 10, 12, 14])
        self.assertEqual(last(figure(7, 1), may(3)), [8, 1, 3, 5, 7, 9, 11, 13, 15])
        self.assertEqual(last(figure(7, 1), may(2)), [8, 0, 2, 4, 6, 8, 10, 12, 14])

    def test_what_was_added_of_two(self):
        self.assertEqual(last(figure(0, 9), figure(1, 5), may(8)), [1, 12])
        self.assertEqual(last(figure(0, 9), may(8)), ALL_FIGURES)
        self.assertEqual(last(figure(12, 3), may(13)), EVEN)
        self.assertEqual(last(figure(12, 2), may(13)), ODD)
        self.assertEqual(last(figure(12, 2), figure(13, 7), may(14)), [1, 5])

    def test_the_judge(self):
        self.assertEqual(last(points(14, 0, 1), may(14)), [4, 9, 10, 12, 15])
        self.assertEqual(last(points(14, 0, 1), points(14, 1, 1), may(14)), [2, 12, 15])
        self.assertEqual(last(points(14, 0, 1), points(14, 1, 1), points(14, 3, 2), may(14)), [1, 12])

    def test_the_sentence(self):
        self.assertEqual(last(figure(0, 1), may(15)), ODD)
        self.assertEqual(last(figure(0, 5), may(15)), EVEN)
        self.assertEqual(last(figure(0, 5), figure(14, 6), may(15)), [1, 3])

    def test_like(self):
        rows = [like(2, 3, row, 1) for row in range(4)]
        self.assertEqual(last(*rows, may(9)), [1, 0])
        self.assertEqual(last(*rows, may(3)), ALL_FIGURES)
        self.assertEqual(last(*rows, figure(2, 11), may(3)), [1, 11])
        self.assertEqual(last(like(2, 3, 1, 0), may(9)), [8, 4, 5, 6, 7, 12, 13, 14, 15])

    def test_figures_that_rows_bind_to_one_another(self):
        # Row 0 of mother 1 is row 1 of mother 0, each row being another place's too.
        self.assertEqual(last(like(4, 0, 1, 1), points(1, 0, 1), may(0)), [8, 4, 5, 6, 7, 12, 13, 14, 15])
        # Daughter 4 has the mother's row 0 at row 0; with all rows alike it's just the same figure.
        alike = [like(0, 4, row, 1) for row in range(1, 4)]
        self.assertEqual(last(*alike, figure(0, 6), may(4)), [1, 6])

    def test_24_signs(self):
        zeros = [figure(place, 0) for place in range(6)]
        self.assertEqual(last(*zeros, may(15)), [1, 0])
        self.assertEqual(last(*[figure(2, 13)] * 6, may(2)), [1, 13])
        self.assertEqual(last(*[figure(2, 13)] * 6, may(3)), ALL_FIGURES)


class NoSuchPlace(unittest.TestCase):
    def test_it_is_refused(self):
        for place in NO_PLACES:
            with self.subTest(place=place):
                self.assertEqual(ask(may(place)), [[-1]])
                self.assertEqual(last(*MOTHERS_1234, may(place)), [-1])

    def test_the_edges_are_taken(self):
        self.assertEqual(ask(may(0), may(15)), [ALL_FIGURES, ALL_FIGURES])


class NoChartAgrees(unittest.TestCase):
    def test_it_is_refused(self):
        for signs in CONTRADICTIONS:
            for place in range(16):
                with self.subTest(signs=signs, place=place):
                    self.assertEqual(last(*signs, may(place)), [-6])

    def test_no_such_place_is_told_before_it(self):
        for signs in CONTRADICTIONS:
            for place in NO_PLACES:
                with self.subTest(signs=signs, place=place):
                    self.assertEqual(last(*signs, may(place)), [-1])


class SignsStay(unittest.TestCase):
    def test_all_is_as_it_was_behind_a_refusal(self):
        for place in NO_PLACES:
            told = ask(points(3, 3, 1), may(place), chart(0), drop(1), drop(0), drop(0))
            self.assertEqual(told, [[32768], [-1], [0] + figures_of(1), [-2], [65536], [-2]])
        told = ask(points(3, 3, 1), like(0, 0, 0, 0), may(3), may(16), drop(2), drop(1), chart(0), drop(0), drop(0))
        self.assertEqual(told, [[32768], [0], [-6], [-1], [-2], [32768], [0] + figures_of(1), [65536], [-2]])

    def test_it_is_no_sign_and_changes_none(self):
        told = ask(may(0), drop(0), points(0, 0, 1), may(0), may(0), may(15), sure(), drop(1), drop(0), may(0))
        high = [8, 8, 9, 10, 11, 12, 13, 14, 15]
        self.assertEqual(told[:6], [ALL_FIGURES, [-2], [32768], high, high, ALL_FIGURES])
        self.assertEqual(told[6][0], 2)
        self.assertEqual(told[7:], [[-2], [65536], ALL_FIGURES])

    def test_clears_ends_a_contradiction(self):
        self.assertEqual(last(like(0, 0, 0, 0), clears(), may(14)), EVEN)


if __name__ == "__main__":
    unittest.main()
