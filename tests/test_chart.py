"""chart: the k-th of the charts that agree, in order (Words, The calls, point 3)."""

import unittest

from helper import ALL_CHARTS, LARGEST, ask, chart, drop, figure, figures_of, last, like, points


class AllCharts(unittest.TestCase):
    def test_the_first(self):
        self.assertEqual(ask(chart(0)), [[0] + [0] * 16])

    def test_the_last(self):
        self.assertEqual(ask(chart(65535)), [[0] + [15] * 8 + [0] * 7 + [15]])

    def test_some_told_by_hand(self):
        by_hand = {
            0x0001: [0, 0, 0, 1, 0, 0, 0, 1, 0, 1, 0, 1, 1, 1, 0, 0],
            0x1234: [1, 2, 3, 4, 0, 1, 6, 10, 3, 7, 1, 12, 4, 13, 9, 8],
            0x8421: [8, 4, 2, 1, 8, 4, 2, 1, 12, 3, 12, 3, 15, 15, 0, 8],
            0xF000: [15, 0, 0, 0, 8, 8, 8, 8, 15, 0, 0, 0, 15, 0, 15, 0],
        }
        for number, figures in by_hand.items():
            with self.subTest(number=number):
                self.assertEqual(ask(chart(number)), [[0] + figures])

    def test_many(self):
        for start in range(0, ALL_CHARTS, 4093):
            numbers = [number for number in range(start, start + 40) if number < ALL_CHARTS]
            self.assertEqual(ask(*[chart(n) for n in numbers]), [[0] + figures_of(n) for n in numbers])

    def test_none_behind_the_last(self):
        for k in (65536, 65537, 131072, LARGEST):
            self.assertEqual(ask(chart(k)), [[-3]])


class ChartsWithSigns(unittest.TestCase):
    def mothers(self, *calls):
        return ["".join("0123456789abcdef"[form] for form in told[1:5]) for told in ask(*calls) if len(told) == 17]

    def test_a_low_bit_that_is_settled(self):
        told = self.mothers(points(3, 3, 1), *[chart(k) for k in (0, 1, 2, 32766, 32767)])
        self.assertEqual(told, ["0001", "0003", "0005", "fffd", "ffff"])

    def test_a_high_bit_that_is_settled(self):
        told = self.mothers(points(0, 0, 1), *[chart(k) for k in (0, 1, 2, 32766, 32767)])
        self.assertEqual(told, ["8000", "8001", "8002", "fffe", "ffff"])

    def test_like_settles_the_lower_of_two_bits(self):
        told = self.mothers(figure(0, 0), figure(1, 0), figure(2, 0), like(3, 2, 0, 0), *[chart(k) for k in range(8)])
        self.assertEqual(told, ["0008", "0009", "000a", "000b", "000c", "000d", "000e", "000f"])
        signs = [figure(0, 0), figure(3, 0), points(1, 1, 2), points(1, 2, 2), points(1, 3, 2), like(1, 2, 0, 0)]
        told = self.mothers(*signs, *[chart(k) for k in range(16)])
        self.assertEqual(told[:9], ["0080", "0090", "00a0", "00b0", "00c0", "00d0", "00e0", "00f0", "0800"])
        self.assertEqual(told[9:], ["0810", "0820", "0830", "0840", "0850", "0860", "0870"])

    def test_as_many_as_agree(self):
        signs = [figure(14, 9), points(0, 0, 2)]
        self.assertEqual(ask(*signs, chart(4095), chart(4096), chart(LARGEST))[1], [4096])
        told = ask(*signs, chart(4095), chart(4096), chart(LARGEST))
        self.assertEqual(len(told[2]), 17)
        self.assertEqual(told[2][1 + 14], 9)
        self.assertEqual(told[3:], [[-3], [-3]])

    def test_only_one_agrees(self):
        signs = [figure(0, 1), figure(1, 2), figure(2, 3), figure(3, 4)]
        self.assertEqual(last(*signs, chart(0)), [0] + figures_of(0x1234))
        self.assertEqual(last(*signs, chart(1)), [-3])

    def test_none_agrees(self):
        for signs in ([like(4, 4, 1, 0)], [figure(14, 7)], [points(8, 0, 1), points(8, 0, 2)]):
            for k in (0, 1, LARGEST):
                self.assertEqual(last(*signs, chart(k)), [-3])

    def test_all_is_as_it_was(self):
        told = ask(points(3, 3, 1), chart(32768), chart(LARGEST), chart(0), drop(0), drop(0))
        self.assertEqual(told, [[32768], [-3], [-3], [0] + figures_of(1), [65536], [-2]])

    def test_it_is_no_sign(self):
        told = ask(chart(7), drop(0), points(0, 0, 1), chart(7), drop(1), drop(0))
        self.assertEqual(told, [[0] + figures_of(7), [-2], [32768], [0] + figures_of(0x8007), [-2], [65536]])


if __name__ == "__main__":
    unittest.main()
