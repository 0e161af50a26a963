"""What the tests share: calls as lists, answers one by one, and a sand that tries out all charts."""

import itertools

from sandfigures.sand import answers

LARGEST = 4294967295
ALL_CHARTS = 65536


def clears():
    return [0]


def points(place, row, dots):
    return [1, place, row, dots]


def figure(place, form):
    return [2, place, form]


def like(place, other, row, alike):
    return [3, place, other, row, alike]


def drop(sign):
    return [4, sign]


def chart(k):
    return [5, k]


def sure():
    return [6]


def may(place):
    return [7, place]


def cast(marks):
    return [8, len(marks)] + list(marks)


def read(number):
    return [9, number]


def honest():
    return [10]


def ask(*calls):
    """The calls' answers, one list each, from one list of calls."""
    told = answers([number for call in calls for number in call])
    parts = []
    at = 0
    while at < len(told):
        behind = at + 1 + told[at]
        if behind > len(told):
            raise AssertionError(f"a count of {told[at]} with too few numbers behind it")
        parts.append(told[at + 1:behind])
        at = behind
    if len(parts) != len(calls):
        raise AssertionError(f"{len(parts)} answers to {len(calls)} calls")
    return parts


def last(*calls):
    return ask(*calls)[-1]


def has_one_point(form, row):
    return form // (8, 4, 2, 1)[row] % 2 == 1


def form_with(one_points):
    return sum(bit for bit, one in zip((8, 4, 2, 1), one_points) if one)


def add(form, other):
    return form_with([has_one_point(form, row) != has_one_point(other, row) for row in range(4)])


def figures_of(number):
    """A chart's sixteen figures, as the document's words build them."""
    places = [number // 4096, number // 256 % 16, number // 16 % 16, number % 16]
    for k in range(4):
        places.append(form_with([has_one_point(places[r], k) for r in range(4)]))
    for one, other in ((0, 1), (2, 3), (4, 5), (6, 7), (8, 9), (10, 11), (12, 13), (14, 0)):
        places.append(add(places[one], places[other]))
    return places


def comes_to(figures, place):
    """The places that the way of the point comes to from a place, itself too, as the document's words tell it."""
    added = {8: (0, 1), 9: (2, 3), 10: (4, 5), 11: (6, 7), 12: (8, 9), 13: (10, 11), 14: (12, 13)}
    places = {place}
    for origin in added.get(place, ()):
        if has_one_point(figures[origin], 0) == has_one_point(figures[place], 0):
            places |= comes_to(figures, origin)
    return places


class TriedOut:
    """A sand that goes through all charts; a set of charts is a number with the bits of their numbers."""

    def __init__(self):
        self.charts = [figures_of(number) for number in range(ALL_CHARTS)]
        self.whole = 2 ** ALL_CHARTS - 1
        self.with_one = [[self.charts_with_one(place, row) for row in range(4)] for place in range(16)]
        self.signs = []

    def charts_with_one(self, place, row):
        bit = (8, 4, 2, 1)[row]
        digits = ["1" if figures[place] & bit else "0" for figures in reversed(self.charts)]
        return int("".join(digits), 2)

    def agreeing(self):
        left = self.whole
        for sign in self.signs:
            left &= sign
        return left

    def in_order(self):
        return [number for number, digit in enumerate(reversed(bin(self.agreeing())[2:])) if digit == "1"]

    def take(self, signs):
        if len(self.signs) + len(signs) > 24:
            return [-5]
        self.signs = self.signs + signs
        return [bin(self.agreeing()).count("1")]

    def row_sign(self, place, row, one):
        return self.with_one[place][row] if one else self.whole ^ self.with_one[place][row]

    def answer(self, call):
        signs = (self.clears, self.points, self.figure, self.like, self.drop)
        others = (self.chart, self.sure, self.may, self.cast, self.read, self.honest)
        return (signs + others)[call[0]](*call[1:])

    def clears(self):
        self.signs = []
        return [0]

    def points(self, place, row, dots):
        if place > 15 or row > 3 or dots not in (1, 2):
            return [-1]
        return self.take([self.row_sign(place, row, dots == 1)])

    def figure(self, place, form):
        if place > 15 or form > 15:
            return [-1]
        return self.take([self.row_sign(place, row, has_one_point(form, row)) for row in range(4)])

    def like(self, place, other, row, alike):
        if place > 15 or other > 15 or row > 3 or alike not in (0, 1):
            return [-1]
        unlike = self.with_one[place][row] ^ self.with_one[other][row]
        return self.take([self.whole ^ unlike if alike == 1 else unlike])

    def drop(self, sign):
        if sign >= len(self.signs):
            return [-2]
        self.signs = [kept for number, kept in enumerate(self.signs) if number != sign]
        return [bin(self.agreeing()).count("1")]

    def chart(self, k):
        numbers = self.in_order()
        return [0] + self.charts[numbers[k]] if k < len(numbers) else [-3]

    def sure(self):
        left = self.agreeing()
        if left == 0:
            return [-6]
        told = []
        for rows in self.with_one:
            told.append(form_with([left & ones == left for ones in rows]))
            told.append(form_with([left & ones == 0 for ones in rows]))
        return [sum(bin(form).count("1") for form in told)] + told

    def may(self, place):
        if place > 15:
            return [-1]
        if self.agreeing() == 0:
            return [-6]
        forms = sorted({self.charts[number][place] for number in self.in_order()})
        return [len(forms)] + forms

    def cast(self, count, *marks):
        digits = ["1" if mark % 2 == 1 else "0" for mark in marks]
        return [int("".join(digits), 2)]

    def read(self, number):
        if number > 65535:
            return [-1]
        figures = self.charts[number]
        way = sorted(comes_to(figures, 14))
        return [0] + figures + [len(set(figures)), len(way)] + way

    def honest(self):
        if len(self.signs) > 12:
            return [-7]
        numbers = range(len(self.signs))
        for size in range(len(self.signs) + 1):
            for left_out in itertools.combinations(numbers, size):
                left = self.whole
                for number in numbers:
                    if number not in left_out:
                        left &= self.signs[number]
                if left:
                    return [size] + list(left_out) + [bin(left).count("1")]
        raise AssertionError("no chart agrees with no sign")
