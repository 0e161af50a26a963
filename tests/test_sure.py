"""sure: the rows that are the same in all charts that agree (Words, The calls, point 3)."""

import unittest

from helper import ask, chart, clears, drop, figure, figures_of, last, like, may, points, sure

MOTHERS_1234 = [figure(0, 1), figure(1, 2), figure(2, 3), figure(3, 4)]


def told_of(ones, twos):
    """The answer where these rows are sure: by place, those of one point and those of two, as figures."""
    told = []
    for place in range(16):
        told += [ones.get(place, 0), twos.get(place, 0)]
    return [sum(bin(form).count("1") for form in told)] + told


class Sure(unittest.TestCase):
    def test_no_sign(self):
        self.assertEqual(ask(sure()), [[0] + [0] * 32])

    def test_how_the_answer_stands(self):
        told = [2] + [8, 0] + [0, 0] * 3 + [8, 0] + [0, 0] * 11
        self.assertEqual(last(points(0, 0, 1), sure()), told)
        self.assertEqual(told_of({0: 8, 4: 8}, {}), told)

    def test_a_mothers_row_is_a_daughters(self):
        for mother in range(4):
            for row in range(4):
                with self.subTest(mother=mother, row=row):
                    rows = {mother: 8 >> row, 4 + row: 8 >> mother}
                    self.assertEqual(last(points(mother, row, 1), sure()), told_of(rows, {}))
                    self.assertEqual(last(points(mother, row, 2), sure()), told_of({}, rows))

    def test_a_row_of_a_place_that_was_added_is_sure_alone(self):
        for place in range(8, 16):
            for row in range(4):
                with self.subTest(place=place, row=row):
                    self.assertEqual(last(points(place, row, 1), sure()), told_of({place: 8 >> row}, {}))
                    self.assertEqual(last(points(place, row, 2), sure()), told_of({}, {place: 8 >> row}))

    def test_a_figure_at_a_daughter(self):
        # Row 1 of the mothers is one, two, two, one point; so both their nieces have one there and the witness two.
        ones = {0: 4, 3: 4, 5: 9, 8: 4, 9: 4}
        twos = {1: 4, 2: 4, 5: 6, 12: 4}
        self.assertEqual(last(figure(5, 9), sure()), [11] + told_of(ones, twos)[1:])

    def test_figures_at_two_mothers(self):
        # They are the upper two rows of the daughters too, and so of what was added of these.
        ones = {0: 10, 1: 3, 4: 8, 6: 12, 7: 4, 8: 9, 10: 8, 11: 8}
        twos = {0: 5, 1: 12, 4: 4, 5: 12, 7: 8, 8: 6, 10: 4, 11: 4, 13: 12}
        self.assertEqual(last(figure(0, 10), figure(1, 3), sure()), [26] + told_of(ones, twos)[1:])

    def test_three_rows_of_the_judge_settle_the_fourth(self):
        signs = [points(14, 0, 1), points(14, 1, 1), points(14, 2, 1)]
        self.assertEqual(last(*signs, sure()), [4] + told_of({14: 15}, {})[1:])
        signs = [points(14, 3, 2), points(14, 1, 1), points(14, 2, 1)]
        self.assertEqual(last(*signs, sure()), [4] + told_of({14: 6}, {14: 9})[1:])

    def test_judge_and_sentence_settle_a_mothers_row(self):
        told = last(points(15, 0, 1), points(14, 0, 2), sure())
        self.assertEqual(told, [4] + told_of({0: 8, 4: 8, 15: 8}, {14: 8})[1:])
        told = last(points(15, 3, 1), points(14, 3, 1), sure())
        self.assertEqual(told, [4] + told_of({14: 1, 15: 1}, {0: 1, 7: 8})[1:])

    def test_witnesses_settle_the_judge(self):
        told = last(figure(12, 12), figure(13, 9), sure())
        self.assertEqual(told, [12] + told_of({12: 12, 13: 9, 14: 5}, {12: 3, 13: 6, 14: 10})[1:])

    def test_like_settles_what_was_added(self):
        self.assertEqual(last(like(0, 1, 0, 1), sure()), told_of({}, {8: 8}))
        self.assertEqual(last(like(3, 2, 3, 0), sure()), told_of({9: 1}, {}))
        self.assertEqual(last(like(12, 13, 2, 0), sure()), told_of({14: 2}, {}))
        self.assertEqual(last(like(14, 15, 1, 1), sure()), told_of({}, {0: 4, 5: 8}))

    def test_like_alone_may_settle_nothing(self):
        for sign in (like(0, 2, 0, 1), like(0, 3, 1, 0), like(7, 7, 2, 1), like(1, 5, 1, 1)):
            self.assertEqual(last(sign, sure()), [0] + [0] * 32)

    def test_one_chart_alone(self):
        rows = [number for form in figures_of(0x1234) for number in (form, 15 - form)]
        self.assertEqual(last(*MOTHERS_1234, sure()), [64] + rows)

    def test_two_charts(self):
        # Row 3 of the last mother is open, and with it just what it is a part of.
        told = last(*MOTHERS_1234, drop(15), sure())
        rows = [number for form in figures_of(0x1234) for number in (form, 15 - form)]
        open_rows = {3: 1, 7: 1, 9: 1, 11: 1, 12: 1, 13: 1}
        for place, form in open_rows.items():
            rows[2 * place] &= ~form
            rows[2 * place + 1] &= ~form
        self.assertEqual(told, [58] + rows)

    def test_the_same_sign_twice(self):
        self.assertEqual(last(points(9, 2, 1), points(9, 2, 1), sure()), told_of({9: 2}, {}))

    def test_24_signs(self):
        told = last(*[figure(place, 0) for place in range(6)], sure())
        self.assertEqual(told, [64] + [0, 15] * 16)


class NoChartAgrees(unittest.TestCase):
    def test_it_is_refused(self):
        for signs in ([like(4, 4, 1, 0)], [figure(14, 7)], [points(8, 0, 1), points(8, 0, 2)]):
            with self.subTest(signs=signs):
                self.assertEqual(last(*signs, sure()), [-6])

    def test_also_where_signs_that_agree_stand_beside(self):
        self.assertEqual(last(points(0, 0, 1), figure(14, 1), points(1, 1, 2), sure()), [-6])

    def test_all_is_as_it_was(self):
        told = ask(points(0, 0, 1), like(1, 1, 1, 0), sure(), sure(), drop(2), drop(1), sure(), drop(0), drop(0))
        expected = [[32768], [0], [-6], [-6], [-2], [32768], told_of({0: 8, 4: 8}, {}), [65536], [-2]]
        self.assertEqual(told, expected)

    def test_clears_ends_it(self):
        self.assertEqual(ask(like(0, 0, 0, 0), clears(), sure()), [[0], [0], [0] + [0] * 32])


class SignsStay(unittest.TestCase):
    def test_it_is_no_sign_and_changes_none(self):
        told = ask(sure(), drop(0), points(3, 3, 1), sure(), sure(), chart(0), may(3), drop(1), drop(0), sure())
        settled = told_of({3: 1, 7: 1}, {})
        self.assertEqual(told[:5], [[0] + [0] * 32, [-2], [32768], settled, settled])
        odd = [8, 1, 3, 5, 7, 9, 11, 13, 15]
        self.assertEqual(told[5:], [[0] + figures_of(1), odd, [-2], [65536], [0] + [0] * 32])


if __name__ == "__main__":
    unittest.main()
