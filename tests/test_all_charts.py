"""The answers to long lists of calls, against a sand that tries out all 65536 charts."""

import random
import unittest

from helper import LARGEST, TriedOut, ask, cast, chart, clears, drop, figure, honest, like, may, points, read, sure

LISTS = 80


class Caller:
    """Makes up calls, always the same from the same seed; most signs are true of one chart."""

    def __init__(self, seed, charts):
        self.choice = random.Random(seed)
        self.figures = charts[self.choice.randrange(len(charts))]
        self.lies = self.choice.choice((0, 0, 5, 30))
        self.wrong = self.choice.choice((0, 5, 20))
        self.honest_calls = 0

    def chance(self, of_100):
        return self.choice.randrange(100) < of_100

    def number(self, below):
        if self.chance(self.wrong):
            return self.choice.choice((below, below + 1, LARGEST))
        return self.choice.randrange(below)

    def bit(self, place, row):
        true = self.figures[place % 16] >> (3 - row % 4) & 1
        return 1 - true if self.chance(self.lies) else true

    def points(self):
        place, row = self.number(16), self.number(4)
        return points(place, row, self.number(3) if self.chance(self.wrong) else 2 - self.bit(place, row))

    def figure(self):
        place = self.number(16)
        true = self.figures[place % 16]
        return figure(place, self.number(16) if self.chance(self.lies + self.wrong) else true)

    def like(self):
        place, other, row = self.number(16), self.number(16), self.number(4)
        alike = 1 if self.bit(place, row) == self.bit(other, row) else 0
        return like(place, other, row, self.number(2) if self.chance(self.wrong) else alike)

    def drop(self):
        return drop(self.choice.randrange(12))

    def chart(self, agreeing):
        edges = (0, agreeing // 2, max(agreeing - 1, 0), agreeing)
        return chart(self.choice.choice(edges + (self.choice.randrange(agreeing + 1),)))

    def cast(self):
        return cast([self.choice.choice((0, 1, 2, 3, LARGEST - 1, LARGEST)) for mark in range(16)])

    def sign(self):
        kind = self.choice.randrange(100)
        if kind < 50:
            return self.points()
        if kind < 60:
            return self.figure()
        return self.like()

    def close_sign(self):
        """A sign on few places and one row, so that such signs have much to say of one another."""
        place, other = (self.choice.choice((0, 1, 2, 3, 8, 9, 12)) for time in range(2))
        if self.chance(50):
            return points(place, 2, 2 - self.bit(place, 2))
        return like(place, other, 2, 1 if self.bit(place, 2) == self.bit(other, 2) else 0)

    def question(self, agreeing):
        kind = self.choice.randrange(100)
        if kind < 30:
            return self.chart(agreeing)
        if kind < 55:
            return sure()
        if kind < 85:
            return may(self.number(16))
        if kind < 90:
            return self.cast()
        return read(self.number(65536))

    def call(self, agreeing):
        kind = self.choice.randrange(100)
        if kind < 2:
            return clears()
        if kind < 50:
            return self.sign()
        if kind < 63:
            return self.drop()
        if kind < 73 and self.honest_calls < 4:
            self.honest_calls += 1
            return honest()
        return self.question(agreeing)


class AllCharts(unittest.TestCase):
    @classmethod
    def setUpClass(cls):
        cls.sand = TriedOut()

    def test_long_lists(self):
        seen, left_out, settled, figures = set(), set(), set(), set()
        for seed in range(LISTS):
            with self.subTest(seed=seed):
                caller = Caller(seed, self.sand.charts)
                self.sand.clears()
                calls, told = [], []
                while len(calls) < 40:
                    calls.append(caller.call(bin(self.sand.agreeing()).count("1")))
                    told.append(self.sand.answer(calls[-1]))
                self.assertEqual(ask(*calls), told)
                for call, answer in zip(calls, told):
                    {10: left_out, 6: settled, 7: figures}.get(call[0], seen).add(answer[0])
        # Else the lists would say little: all refusals are among the answers, and counts large and small.
        self.assertLessEqual({-5, -3, -2, -1, 0, 1, 2, 4, 64, 1024, 32768}, seen)
        self.assertLessEqual({-7, 0, 1, 2}, left_out)
        self.assertLessEqual({-6, 0, 2, 4, 64}, settled)
        self.assertEqual({-6, -1, 1, 2, 4, 8, 16}, figures)

    def test_honest_with_many_lies(self):
        left_out = set()
        for seed in range(LISTS):
            with self.subTest(seed=seed):
                caller = Caller(seed, self.sand.charts)
                caller.lies = 10 + seed % 4 * 15
                self.sand.clears()
                calls = [caller.close_sign() for sign in range(9 + seed % 4)]
                told = [self.sand.answer(call) for call in calls]
                told.append(self.sand.honest())
                self.assertEqual(ask(*calls, honest()), told)
                left_out.add(told[-1][0])
        self.assertLessEqual({0, 1, 2, 3, 4}, left_out)

    def test_all_that_agree_in_order(self):
        for seed in range(5):
            with self.subTest(seed=seed):
                caller = Caller(seed, self.sand.charts)
                caller.lies = caller.wrong = 0
                signs = [caller.points() for time in range(4)] + [caller.like() for time in range(4)]
                self.sand.clears()
                counts = [self.sand.answer(call) for call in signs]
                numbers = self.sand.in_order()
                self.assertGreaterEqual(len(numbers), 256)
                for start in range(0, len(numbers) + 1, 30):
                    ks = range(start, min(start + 30, len(numbers) + 1))
                    expected = [[0] + self.sand.charts[numbers[k]] if k < len(numbers) else [-3] for k in ks]
                    self.assertEqual(ask(*signs, *[chart(k) for k in ks]), counts + expected)


if __name__ == "__main__":
    unittest.main()
