"""The answers to long lists of calls, against a sand that tries out all 65536 charts."""

import random
import unittest

from helper import LARGEST, TriedOut, ask, chart, clears, drop, figure, like, points

LISTS = 60


class Caller:
    """Makes up calls, always the same from the same seed; most signs are true of one chart."""

    def __init__(self, seed, charts):
        self.choice = random.Random(seed)
        self.figures = charts[self.choice.randrange(len(charts))]
        self.lies = self.choice.choice((0, 0, 5, 30))
        self.wrong = self.choice.choice((0, 5, 20))

    def chance(self, of_100):
        return self.choice.randrange(100) < of_100

    def number(self, below):
        if self.chance(self.wrong):
            return self.choice.choice((below, below + 1, LARGEST))
        return self.choice.randrange(below)

    def bit(self, place, row):
        true = self.figures[place % 16] >> (3 - row % 4) & 1
        return 1 - true if self.chance(self.lies) else true

    def points(self):
        place, row = self.number(16), self.number(4)
        return points(place, row, self.number(3) if self.chance(self.wrong) else 2 - self.bit(place, row))

    def figure(self):
        place = self.number(16)
        true = self.figures[place % 16]
        return figure(place, self.number(16) if self.chance(self.lies + self.wrong) else true)

    def like(self):
        place, other, row = self.number(16), self.number(16), self.number(4)
        alike = 1 if self.bit(place, row) == self.bit(other, row) else 0
        return like(place, other, row, self.number(2) if self.chance(self.wrong) else alike)

    def drop(self):
        return drop(self.choice.randrange(12))

    def chart(self, agreeing):
        edges = (0, agreeing // 2, max(agreeing - 1, 0), agreeing)
        return chart(self.choice.choice(edges + (self.choice.randrange(agreeing + 1),)))

    def call(self, agreeing):
        kind = self.choice.randrange(100)
        if kind < 2:
            return clears()
        if kind < 35:
            return self.points()
        if kind < 42:
            return self.figure()
        if kind < 68:
            return self.like()
        if kind < 80:
            return self.drop()
        return self.chart(agreeing)


class AllCharts(unittest.TestCase):
    @classmethod
    def setUpClass(cls):
        cls.sand = TriedOut()

    def test_long_lists(self):
        seen = set()
        for seed in range(LISTS):
            with self.subTest(seed=seed):
                caller = Caller(seed, self.sand.charts)
                self.sand.clears()
                calls, told = [], []
                while len(calls) < 40:
                    calls.append(caller.call(bin(self.sand.agreeing()).count("1")))
                    told.append(self.sand.answer(calls[-1]))
                self.assertEqual(ask(*calls), told)
                seen.update(answer[0] for answer in told)
        # Else the lists would say little: all refusals are among the answers, and counts large and small.
        self.assertLessEqual({-5, -3, -2, -1, 0, 1, 2, 4, 64, 1024, 32768}, seen)

    def test_all_that_agree_in_order(self):
        for seed in range(5):
            with self.subTest(seed=seed):
                caller = Caller(seed, self.sand.charts)
                caller.lies = caller.wrong = 0
                signs = [caller.points() for time in range(4)] + [caller.like() for time in range(4)]
                self.sand.clears()
                counts = [self.sand.answer(call) for call in signs]
                numbers = self.sand.in_order()
                self.assertGreaterEqual(len(numbers), 256)
                for start in range(0, len(numbers) + 1, 30):
                    ks = range(start, min(start + 30, len(numbers) + 1))
                    expected = [[0] + self.sand.charts[numbers[k]] if k < len(numbers) else [-3] for k in ks]
                    self.assertEqual(ask(*signs, *[chart(k) for k in ks]), counts + expected)


if __name__ == "__main__":
    unittest.main()
