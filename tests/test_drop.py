"""drop: how many charts agree without the sign, and the others' numbers (The calls, point 2)."""

import unittest

from helper import LARGEST, ask, chart, clears, drop, figure, last, like, points

THREE = [points(0, 0, 1), points(1, 1, 1), points(2, 2, 1)]


def which_are_left(*calls):
    """Which of the signs of THREE still hold: those that what is contrary to them contradicts."""
    contrary = [points(0, 0, 2), points(1, 1, 2), points(2, 2, 2)]
    return [number for number in range(3) if last(*calls, contrary[number]) == [0]]


class Drop(unittest.TestCase):
    def test_the_only_sign(self):
        self.assertEqual(ask(points(14, 0, 1), drop(0)), [[32768], [65536]])

    def test_the_first_a_middle_and_the_last(self):
        self.assertEqual(which_are_left(*THREE), [0, 1, 2])
        for sign, left in ((0, [1, 2]), (1, [0, 2]), (2, [0, 1])):
            with self.subTest(sign=sign):
                self.assertEqual(last(*THREE, drop(sign)), [16384])
                self.assertEqual(which_are_left(*THREE, drop(sign)), left)

    def test_those_behind_it_get_numbers_less_by_one(self):
        self.assertEqual(which_are_left(*THREE, drop(0), drop(0)), [2])
        self.assertEqual(which_are_left(*THREE, drop(0), drop(1)), [1])
        self.assertEqual(which_are_left(*THREE, drop(1), drop(1)), [0])
        self.assertEqual(which_are_left(*THREE, drop(1), drop(0)), [2])
        self.assertEqual(which_are_left(*THREE, drop(2), drop(1)), [0])
        self.assertEqual(which_are_left(*THREE, drop(2), drop(0)), [1])

    def test_a_new_sign_gets_the_number_behind_the_last(self):
        told = ask(*THREE, drop(0), like(5, 5, 0, 0), drop(2), drop(2))
        self.assertEqual(told[3:], [[16384], [0], [16384], [-2]])

    def test_a_contradiction_is_gone_with_either_sign(self):
        both = [points(13, 3, 1), points(13, 3, 2)]
        self.assertEqual(last(*both, drop(0)), [32768])
        self.assertEqual(last(*both, drop(1)), [32768])
        self.assertEqual(last(*both, drop(0), chart(0))[1 + 13] % 2, 0)
        self.assertEqual(last(*both, drop(1), chart(0))[1 + 13] % 2, 1)

    def test_a_sign_told_twice_goes_once(self):
        self.assertEqual(ask(points(7, 1, 2), points(7, 1, 2), drop(0), drop(0)), [[32768], [32768], [32768], [65536]])

    def test_the_last_of_24(self):
        signs = [figure(place, 0) for place in range(6)]
        self.assertEqual(ask(*signs, drop(24), drop(23), drop(23), drop(22))[6:], [[-2], [1], [-2], [1]])

    def test_a_sign_that_was_dropped_leaves_room(self):
        signs = [like(0, 0, 0, 1)] * 24
        self.assertEqual(ask(*signs, points(0, 0, 1), drop(5), points(0, 0, 1))[24:], [[-5], [65536], [32768]])


class NoSuchSign(unittest.TestCase):
    def test_no_sign_at_all(self):
        for sign in (0, 1, 23, 24, LARGEST):
            self.assertEqual(ask(drop(sign)), [[-2]])

    def test_one_more_than_the_last(self):
        self.assertEqual(last(*THREE, drop(3)), [-2])
        self.assertEqual(last(*THREE, drop(LARGEST)), [-2])

    def test_behind_clears(self):
        self.assertEqual(last(*THREE, clears(), drop(0)), [-2])

    def test_all_is_as_it_was(self):
        self.assertEqual(which_are_left(*THREE, drop(3), drop(LARGEST)), [0, 1, 2])
        self.assertEqual(ask(*THREE, drop(3), drop(2), drop(2))[3:], [[-2], [16384], [-2]])


if __name__ == "__main__":
    unittest.main()
