"""honest: as few signs as may be are left out so that some chart agrees (Words, The calls, point 4)."""

import unittest

from helper import ask, chart, clears, drop, figure, figures_of, honest, last, like, may, points, sure

ONE = points(0, 0, 1)
TWO = points(0, 0, 2)
NEVER = like(3, 3, 2, 0)
IDLE = like(0, 0, 0, 1)


class NothingLeftOut(unittest.TestCase):
    def test_no_sign_at_all(self):
        self.assertEqual(ask(honest()), [[0, 65536]])

    def test_signs_that_agree(self):
        self.assertEqual(last(ONE, honest()), [0, 32768])
        self.assertEqual(last(ONE, points(14, 3, 2), like(5, 15, 1, 0), honest()), [0, 8192])
        self.assertEqual(last(IDLE, honest()), [0, 65536])

    def test_the_same_sign_twice(self):
        self.assertEqual(last(ONE, ONE, honest()), [0, 32768])
        self.assertEqual(last(*[points(13, 1, 2)] * 12, honest()), [0, 32768])

    def test_12_signs(self):
        self.assertEqual(last(figure(0, 1), figure(1, 2), figure(2, 3), honest()), [0, 16])
        self.assertEqual(last(*[IDLE] * 12, honest()), [0, 65536])


class OneLeftOut(unittest.TestCase):
    def test_the_lower_of_two(self):
        self.assertEqual(last(ONE, TWO, honest()), [1, 0, 32768])
        self.assertEqual(last(TWO, ONE, honest()), [1, 0, 32768])
        self.assertEqual(last(IDLE, ONE, IDLE, TWO, honest()), [1, 1, 32768])

    def test_one_against_two_that_tell_the_same(self):
        self.assertEqual(last(ONE, TWO, TWO, honest()), [1, 0, 32768])
        self.assertEqual(last(ONE, TWO, ONE, honest()), [1, 1, 32768])
        self.assertEqual(last(TWO, TWO, ONE, honest()), [1, 2, 32768])

    def test_a_sign_that_contradicts_itself(self):
        for at in range(4):
            signs = [points(place, 1, 1) for place in range(3)]
            with self.subTest(at=at):
                self.assertEqual(last(*signs[:at], NEVER, *signs[at:], honest()), [1, at, 8192])
        self.assertEqual(last(NEVER, honest()), [1, 0, 65536])

    def test_a_figure_that_the_judge_never_has(self):
        self.assertEqual(last(figure(14, 7), honest()), [1, 0, 8192])
        self.assertEqual(last(points(14, 1, 1), figure(14, 1), honest()), [1, 2, 8192])

    def test_three_that_contradict_only_together(self):
        # The niece at place 8 was added of places 0 and 1.
        three = [ONE, points(1, 0, 1), points(8, 0, 1)]
        self.assertEqual(last(*three, honest()), [1, 0, 16384])
        self.assertEqual(last(*three, ONE, honest()), [1, 1, 16384])
        self.assertEqual(last(*three, points(1, 0, 1), honest()), [1, 0, 16384])
        self.assertEqual(last(*three, ONE, points(1, 0, 1), honest()), [1, 2, 16384])

    def test_a_lie_that_the_places_above_show(self):
        # The judge's row 0 has one point and the first witness' two; so the second witness' has one.
        signs = [figure(14, 9), points(12, 0, 2), points(13, 0, 2), points(13, 0, 1), points(10, 3, 1)]
        self.assertEqual(last(*signs, honest()), [1, 5, 2048])

    def test_one_sign_where_leaving_out_the_first_does_not_do(self):
        self.assertEqual(last(points(1, 0, 1), ONE, TWO, honest()), [1, 1, 16384])

    def test_the_last_of_12(self):
        signs = [points(place, 2, 1) for place in range(3)] + [ONE] * 8
        self.assertEqual(last(*signs, TWO, honest()), [1, 11, 4096])


class SeveralLeftOut(unittest.TestCase):
    def test_two_contradictions(self):
        other = [points(11, 2, 1), points(11, 2, 2)]
        self.assertEqual(last(ONE, TWO, *other, honest()), [2, 0, 2, 16384])
        self.assertEqual(last(ONE, *other, TWO, honest()), [2, 0, 1, 16384])
        self.assertEqual(last(ONE, TWO, *other, ONE, other[0], honest()), [2, 1, 3, 16384])

    def test_of_several_sets_the_one_that_is_lower_where_they_first_differ(self):
        # {0, 3} or {1, 2}; {1, 2} has the lower last number.
        self.assertEqual(last(ONE, TWO, TWO, ONE, honest()), [2, 0, 3, 32768])
        # {0, 4, 5} or {1, 2, 3}.
        self.assertEqual(last(ONE, TWO, TWO, TWO, ONE, ONE, honest()), [3, 0, 4, 5, 32768])
        # {0, 1, 5} or {2, 3, 4}.
        self.assertEqual(last(ONE, ONE, TWO, TWO, TWO, ONE, honest()), [3, 0, 1, 5, 32768])

    def test_the_first_signs_of_all_may_be_the_true_ones(self):
        self.assertEqual(last(ONE, ONE, ONE, TWO, TWO, honest()), [2, 3, 4, 32768])

    def test_two_where_each_alone_does_not_do(self):
        self.assertEqual(last(NEVER, IDLE, like(9, 9, 0, 0), honest()), [2, 0, 2, 65536])
        self.assertEqual(last(ONE, NEVER, TWO, honest()), [2, 0, 1, 32768])

    def test_signs_that_lean_on_one_another(self):
        # Of three places two are alike at a row; so of four that are to be unlike one another two pairs are lies.
        pairs = [like(0, 1, 3, 0), like(0, 2, 3, 0), like(0, 3, 3, 0)]
        pairs += [like(1, 2, 3, 0), like(1, 3, 3, 0), like(2, 3, 3, 0)]
        self.assertEqual(last(*pairs, honest()), [2, 0, 5, 8192])

    def test_three_figures_at_one_place(self):
        self.assertEqual(last(figure(5, 15), figure(5, 0), figure(5, 15), honest()), [4, 4, 5, 6, 7, 4096])
        self.assertEqual(last(figure(5, 3), figure(5, 5), figure(5, 6), honest()), [3, 1, 6, 11, 4096])

    def test_six_of_12(self):
        self.assertEqual(last(*[ONE, TWO] * 6, honest()), [6, 0, 2, 4, 6, 8, 10, 32768])
        self.assertEqual(last(*[ONE] * 6, *[TWO] * 6, honest()), [6, 0, 1, 2, 3, 4, 5, 32768])

    def test_all_12(self):
        self.assertEqual(last(*[NEVER] * 12, honest()), [12] + list(range(12)) + [65536])
        self.assertEqual(last(*[NEVER] * 11, ONE, honest()), [11] + list(range(11)) + [32768])


class TooManySigns(unittest.TestCase):
    def test_13_signs(self):
        for sign in (ONE, IDLE, NEVER):
            with self.subTest(sign=sign):
                self.assertEqual(last(*[sign] * 13, honest()), [-7])

    def test_16_and_24_signs(self):
        self.assertEqual(last(*[figure(place, 0) for place in range(4)], honest()), [-7])
        self.assertEqual(last(*[figure(place, 0) for place in range(6)], honest()), [-7])

    def test_12_again_when_one_is_dropped(self):
        told = ask(*[ONE] * 12, TWO, honest(), drop(12), honest())
        self.assertEqual(told[12:], [[0], [-7], [32768], [0, 32768]])
        told = ask(*[ONE] * 12, TWO, honest(), drop(0), honest())
        self.assertEqual(told[12:], [[0], [-7], [0], [1, 11, 32768]])

    def test_clears_makes_room(self):
        self.assertEqual(last(*[ONE] * 13, clears(), TWO, honest()), [0, 32768])

    def test_all_is_as_it_was(self):
        told = ask(*[IDLE] * 12, points(3, 3, 1), honest(), chart(0), chart(32768), drop(13), drop(12), drop(12))
        self.assertEqual(told[13:], [[-7], [0] + figures_of(1), [-3], [-2], [65536], [-2]])


class SignsStay(unittest.TestCase):
    def test_what_is_left_out_is_a_sign_still(self):
        told = ask(ONE, TWO, honest(), honest(), sure(), may(0), chart(0), drop(2), drop(0), drop(0), drop(0))
        expected = [[1, 0, 32768], [1, 0, 32768], [-6], [-6], [-3], [-2], [32768], [65536], [-2]]
        self.assertEqual(told[2:], expected)

    def test_it_is_no_sign(self):
        self.assertEqual(ask(honest(), drop(0), ONE, honest()), [[0, 65536], [-2], [32768], [0, 32768]])

    def test_the_numbers_are_those_behind_a_drop(self):
        told = ask(IDLE, ONE, NEVER, drop(0), honest())
        self.assertEqual(told[3:], [[0], [1, 1, 32768]])


if __name__ == "__main__":
    unittest.main()
