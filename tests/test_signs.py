"""clears, points, figure, like: how many charts agree (Words, The calls, point 1)."""

import unittest

from helper import ask, chart, clears, drop, figure, figures_of, last, like, points

MOTHERS_1234 = [figure(0, 1), figure(1, 2), figure(2, 3), figure(3, 4)]
FIGURES_1234 = [1, 2, 3, 4, 0, 1, 6, 10, 3, 7, 1, 12, 4, 13, 9, 8]


class Clears(unittest.TestCase):
    def test_a_new_sand(self):
        self.assertEqual(ask(clears()), [[0]])

    def test_no_signs_behind_it(self):
        self.assertEqual(ask(points(0, 0, 1), clears(), drop(0)), [[32768], [0], [-2]])
        self.assertEqual(ask(figure(5, 9), clears(), points(0, 0, 1)), [[4096], [0], [32768]])

    def test_a_contradiction_is_gone(self):
        self.assertEqual(ask(like(0, 0, 0, 0), clears(), points(15, 3, 2)), [[0], [0], [32768]])


class Points(unittest.TestCase):
    def test_each_row_of_each_place_halves_all_charts(self):
        for place in range(16):
            for row in range(4):
                for dots in (1, 2):
                    with self.subTest(place=place, row=row, dots=dots):
                        self.assertEqual(ask(points(place, row, dots)), [[32768]])

    def test_one_sign_after_another(self):
        calls = [points(place, row, 1) for place in range(4) for row in range(4)]
        self.assertEqual(ask(*calls), [[32768 >> k] for k in range(16)])

    def test_the_same_sign_again_changes_nothing(self):
        self.assertEqual(ask(points(13, 2, 2), points(13, 2, 2)), [[32768], [32768]])

    def test_one_and_two_points_contradict(self):
        for place in range(16):
            self.assertEqual(ask(points(place, 3, 1), points(place, 3, 2)), [[32768], [0]])

    def test_no_chart_agrees_and_stays_so(self):
        self.assertEqual(ask(points(0, 0, 1), points(0, 0, 2), points(9, 1, 1)), [[32768], [0], [0]])

    def test_row_0_is_the_8_and_row_3_the_1(self):
        for row, bit in enumerate((8, 4, 2, 1)):
            for place in (0, 3):
                signs = [points(place, other, 1 if other == row else 2) for other in range(4)]
                self.assertEqual(last(*signs, chart(0))[1 + place], bit)

    def test_a_daughters_row_is_a_mothers(self):
        for k in range(4):
            for r in range(4):
                with self.subTest(k=k, r=r):
                    self.assertEqual(ask(points(4 + k, r, 1), points(r, k, 1)), [[32768], [32768]])
                    self.assertEqual(ask(points(4 + k, r, 1), points(r, k, 2)), [[32768], [0]])

    def test_a_place_that_was_added_of_two(self):
        added = ((8, 0, 1), (9, 2, 3), (10, 4, 5), (11, 6, 7), (12, 8, 9), (13, 10, 11), (14, 12, 13), (15, 14, 0))
        for place, one, other in added:
            for row in range(4):
                with self.subTest(place=place, row=row):
                    unlike = [points(one, row, 1), points(other, row, 2)]
                    same = [points(one, row, 2), points(other, row, 2)]
                    both = [points(one, row, 1), points(other, row, 1)]
                    self.assertEqual(last(*unlike, points(place, row, 1)), last(*unlike))
                    self.assertEqual(last(*unlike, points(place, row, 2)), [0])
                    for alike in (same, both):
                        self.assertEqual(last(*alike, points(place, row, 2)), last(*alike))
                        self.assertEqual(last(*alike, points(place, row, 1)), [0])


class Figure(unittest.TestCase):
    def test_each_figure_at_each_place_but_the_judge(self):
        for place in range(16):
            for form in range(16):
                if place != 14:
                    with self.subTest(place=place, form=form):
                        self.assertEqual(ask(figure(place, form)), [[4096]])

    def test_the_judge_has_an_even_count_of_rows_with_one_point(self):
        told = [ask(figure(14, form))[0][0] for form in range(16)]
        even = (0, 3, 5, 6, 9, 10, 12, 15)
        self.assertEqual(told, [8192 if form in even else 0 for form in range(16)])

    def test_four_mothers_are_one_chart(self):
        self.assertEqual(ask(*MOTHERS_1234), [[4096], [256], [16], [1]])

    def test_four_daughters_are_one_chart(self):
        daughters = [figure(4 + k, FIGURES_1234[4 + k]) for k in range(4)]
        self.assertEqual(ask(*daughters, chart(0)), [[4096], [256], [16], [1], [0] + FIGURES_1234])

    def test_a_chart_agrees_with_its_own_figures_and_with_no_other(self):
        for place in range(16):
            for form in range(16):
                with self.subTest(place=place, form=form):
                    agree = 1 if form == FIGURES_1234[place] else 0
                    self.assertEqual(last(*MOTHERS_1234, figure(place, form)), [agree])

    def test_it_is_four_signs_row_0_first(self):
        # Form 5 has two points in rows 0 and 2; a row whose sign is dropped may be otherwise, no other row may.
        otherwise = [points(0, 0, 1), points(0, 1, 2), points(0, 2, 1), points(0, 3, 2)]
        for sign in range(4):
            for row in range(4):
                with self.subTest(sign=sign, row=row):
                    told = ask(figure(0, 5), drop(sign), otherwise[row])
                    self.assertEqual(told, [[4096], [8192], [4096 if row == sign else 0]])

    def test_it_says_the_same_as_four_points(self):
        for form in range(16):
            with self.subTest(form=form):
                rows = [points(6, row, 1 if form & bit else 2) for row, bit in enumerate((8, 4, 2, 1))]
                self.assertEqual(last(figure(6, form), *rows), [4096])


class Like(unittest.TestCase):
    def test_two_places(self):
        self.assertEqual(ask(like(0, 1, 0, 1)), [[32768]])
        self.assertEqual(ask(like(0, 1, 0, 0)), [[32768]])
        self.assertEqual(ask(like(15, 0, 3, 1)), [[32768]])
        self.assertEqual(ask(like(0, 15, 3, 0)), [[32768]])

    def test_a_place_with_itself(self):
        for place in range(16):
            for row in range(4):
                with self.subTest(place=place, row=row):
                    self.assertEqual(ask(like(place, place, row, 1)), [[65536]])
                    self.assertEqual(ask(like(place, place, row, 0)), [[0]])

    def test_same_is_one_point_both_or_two_both(self):
        for dots in (1, 2):
            self.assertEqual(last(like(2, 9, 1, 1), points(2, 1, dots), points(9, 1, dots)), [16384])
            self.assertEqual(last(like(2, 9, 1, 1), points(2, 1, dots), points(9, 1, 3 - dots)), [0])
            self.assertEqual(last(like(2, 9, 1, 0), points(2, 1, dots), points(9, 1, 3 - dots)), [16384])
            self.assertEqual(last(like(2, 9, 1, 0), points(2, 1, dots), points(9, 1, dots)), [0])

    def test_rows_that_are_the_same_in_every_chart(self):
        for mother in range(4):
            self.assertEqual(ask(like(mother, 4 + mother, mother, 1)), [[65536]])
            self.assertEqual(ask(like(mother, 4 + mother, mother, 0)), [[0]])

    def test_the_order_of_the_places_does_not_matter(self):
        self.assertEqual(ask(like(3, 12, 2, 1), like(12, 3, 2, 1), like(12, 3, 2, 0)), [[32768], [32768], [0]])

    def test_one_follows_from_two_others(self):
        self.assertEqual(ask(like(0, 1, 2, 0), like(1, 2, 2, 0), like(0, 2, 2, 1)), [[32768], [16384], [16384]])
        self.assertEqual(ask(like(0, 1, 2, 0), like(1, 2, 2, 0), like(0, 2, 2, 0)), [[32768], [16384], [0]])

    def test_each_like_of_one_chart(self):
        for place in range(16):
            for other in range(16):
                for row, bit in enumerate((8, 4, 2, 1)):
                    same = FIGURES_1234[place] & bit == FIGURES_1234[other] & bit
                    told = ask(*MOTHERS_1234, like(place, other, row, 1), drop(16), like(place, other, row, 0))
                    self.assertEqual(told[4:], [[1 if same else 0], [1], [0 if same else 1]])


class SignsOfAllKinds(unittest.TestCase):
    def test_one_on_each_kind_of_place(self):
        told = ask(
            points(1, 0, 1),
            points(6, 3, 2),
            points(9, 1, 1),
            points(12, 2, 1),
            points(14, 0, 2),
            points(15, 0, 1),
            points(0, 0, 2),
        )
        # A sentence row with one point and a judge's with two leave one point to the mother at place 0.
        self.assertEqual(told, [[32768], [16384], [8192], [4096], [2048], [1024], [0]])

    def test_the_helper_builds_the_chart_told_by_hand(self):
        self.assertEqual(figures_of(0x1234), FIGURES_1234)


if __name__ == "__main__":
    unittest.main()
