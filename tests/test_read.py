"""read: a chart's figures, how many unlike ones, and the way of the point (Words, The calls, point 3)."""

import unittest

from helper import ALL_CHARTS, LARGEST, ask, chart, comes_to, drop, figures_of, last, like, points, read

NO_CHARTS = (65536, 65537, 131071, 4294901760, LARGEST)

# By hand: a chart's number, its figures, how many unlike ones, the way of the point.
BY_HAND = (
    (0x0000, [0, 0, 0, 0, 0, 0, 0, 0, 0, 0, 0, 0, 0, 0, 0, 0], 1, [0, 1, 2, 3, 4, 5, 6, 7, 8, 9, 10, 11, 12, 13, 14]),
    (0xFFFF, [15, 15, 15, 15, 15, 15, 15, 15, 0, 0, 0, 0, 0, 0, 0, 15], 2, [8, 9, 10, 11, 12, 13, 14]),
    (0x0001, [0, 0, 0, 1, 0, 0, 0, 1, 0, 1, 0, 1, 1, 1, 0, 0], 2, [0, 1, 2, 3, 4, 5, 6, 7, 8, 9, 10, 11, 12, 13, 14]),
    (0x8421, [8, 4, 2, 1, 8, 4, 2, 1, 12, 3, 12, 3, 15, 15, 0, 8], 8, [14]),
    (0x1008, [1, 0, 0, 8, 1, 0, 0, 8, 1, 8, 1, 8, 9, 9, 0, 1], 4, [14]),
    (0x5808, [5, 8, 0, 8, 5, 8, 0, 8, 13, 8, 13, 8, 5, 5, 0, 5], 4, [12, 13, 14]),
    (0xF000, [15, 0, 0, 0, 8, 8, 8, 8, 15, 0, 0, 0, 15, 0, 15, 0], 3, [0, 8, 12, 14]),
    (0x0008, [0, 0, 0, 8, 1, 0, 0, 0, 0, 8, 1, 0, 8, 1, 9, 9], 4, [3, 9, 12, 14]),
    (0x1234, [1, 2, 3, 4, 0, 1, 6, 10, 3, 7, 1, 12, 4, 13, 9, 8], 12, [7, 11, 13, 14]),
    (0x9888, [9, 8, 8, 8, 15, 0, 0, 8, 1, 0, 15, 8, 1, 7, 6, 15], 7, [8, 9, 12, 13, 14]),
    (0x0088, [0, 0, 8, 8, 3, 0, 0, 0, 0, 0, 3, 0, 0, 3, 3, 3], 3, [0, 1, 4, 5, 6, 7, 8, 9, 10, 11, 12, 13, 14]),
    (0x14CB, [1, 4, 12, 11, 3, 6, 1, 9, 5, 7, 5, 8, 2, 13, 15, 14], 14, [7, 11, 13, 14]),
    (0x487D, [4, 8, 7, 13, 5, 11, 2, 3, 12, 10, 14, 1, 6, 15, 9, 13], 15, [5, 10, 13, 14]),
)


def told_of(figures, unlike, way):
    return [0] + figures + [unlike, len(way)] + way


class Read(unittest.TestCase):
    def test_how_the_answer_stands(self):
        told = [0, 8, 4, 2, 1, 8, 4, 2, 1, 12, 3, 12, 3, 15, 15, 0, 8, 8, 1, 14]
        self.assertEqual(ask(read(0x8421)), [told])

    def test_charts_told_by_hand(self):
        for number, figures, unlike, way in BY_HAND:
            with self.subTest(number=number):
                self.assertEqual(ask(read(number)), [told_of(figures, unlike, way)])

    def test_many(self):
        for start in range(0, ALL_CHARTS, 479):
            numbers = [number for number in range(start, start + 40) if number < ALL_CHARTS]
            expected = []
            for number in numbers:
                figures = figures_of(number)
                expected.append(told_of(figures, len(set(figures)), sorted(comes_to(figures, 14))))
            self.assertEqual(ask(*[read(number) for number in numbers]), expected)

    def test_the_first_and_the_last(self):
        told = ask(read(0), read(65535))
        self.assertEqual(told, [told_of(*BY_HAND[0][1:]), told_of(*BY_HAND[1][1:])])


class NoSuchChart(unittest.TestCase):
    def test_it_is_refused(self):
        for number in NO_CHARTS:
            with self.subTest(number=number):
                self.assertEqual(ask(read(number)), [[-1]])

    def test_all_is_as_it_was(self):
        for number in NO_CHARTS:
            told = ask(points(3, 3, 1), read(number), chart(0), chart(32768), drop(1), drop(0), drop(0))
            self.assertEqual(told, [[32768], [-1], [0] + figures_of(1), [-3], [-2], [65536], [-2]])


class SignsStay(unittest.TestCase):
    def test_it_is_no_sign(self):
        told = ask(read(0x8421), drop(0), points(0, 0, 2))
        self.assertEqual(told, [told_of(*BY_HAND[3][1:]), [-2], [32768]])

    def test_it_reads_charts_that_do_not_agree(self):
        told = ask(points(0, 0, 2), read(0x8421), chart(0), drop(1), drop(0))
        self.assertEqual(told, [[32768], told_of(*BY_HAND[3][1:]), [0] * 17, [-2], [65536]])

    def test_where_no_chart_agrees(self):
        self.assertEqual(last(like(0, 0, 0, 0), read(0x8421)), told_of(*BY_HAND[3][1:]))
        self.assertEqual(last(like(0, 0, 0, 0), read(65536)), [-1])


if __name__ == "__main__":
    unittest.main()
