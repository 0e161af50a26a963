"""One sand, its signs, and the charts that agree with them.

Two figures are added row by row, modulo two. So each row of each place is a
sum of some of the mothers' sixteen rows. A sum is kept as a whole number: it
has the bits at which a chart's number holds those rows, and the row has one
point just if an odd count of the sum's bits is in the chart's number.

A sign is kept as a sum that has to be even. Where it tells of something odd,
ALWAYS is added: a bit above all charts' numbers that each chart counts as its
own. Signs are then equations, and the charts that agree need not be tried out.
"""

MOTHER_ROWS = 16
LAST_CHART = 65535
ALWAYS = 65536
ROW_BITS = (8, 4, 2, 1)
FIRST_ADDED = 8
ADDED_PLACES = ((0, 1), (2, 3), (4, 5), (6, 7), (8, 9), (10, 11), (12, 13), (14, 0))
JUDGE = 14
MOST_SIGNS = 24
MOST_SIGNS_OF_HONEST = 12

WRONG_NUMBER = -1
NO_SUCH_SIGN = -2
NO_SUCH_CHART = -3
TOO_MANY_SIGNS = -5
NO_CHART_AGREES = -6
TOO_MANY_FOR_HONEST = -7

CLEARS = 0
POINTS = 1
FIGURE = 2
LIKE = 3
DROP = 4
CHART = 5
SURE = 6
MAY = 7
CAST = 8
READ = 9

# By a call's number, as above and 10 for honest: how many numbers stand behind
# it. With cast that's the count of its marks, always sixteen, and the marks.
NUMBERS_OF_CALL = {0: 0, 1: 3, 2: 2, 3: 4, 4: 1, 5: 1, 6: 0, 7: 1, 8: 17, 9: 1, 10: 0}


def mother_sums(place):
    return [1 << (15 - 4 * place - row) for row in range(4)]


def row_sums():
    sums = [mother_sums(place) for place in range(4)]
    for daughter in range(4):
        sums.append([sums[mother][daughter] for mother in range(4)])
    for pair in ADDED_PLACES:
        sums.append([sums[pair[0]][row] ^ sums[pair[1]][row] for row in range(4)])
    return sums


def odd_bits(number):
    odd = 0
    rest = number
    while rest > 0:
        odd = odd ^ (rest % 2)
        rest = rest // 2
    return odd


def lowest_bit(number):
    bit = 1
    while (number & bit) == 0:
        bit = bit * 2
    return bit


# What the equations don't settle of a sum: 0 or ALWAYS if they settle it all. Each
# step adds an even sum, which tells nothing new, and only bits that are higher stay.
def unsettled(total, equations):
    rest = total
    while rest > 0 and lowest_bit(rest) in equations:
        rest = rest ^ equations[lowest_bit(rest)]
    return rest


# Equations that tell the same as the signs, each under its lowest bit: no two
# share that bit, so each of them halves the charts that agree. One whose lowest
# bit is ALWAYS can't be even: the signs contradict one another then.
def solved(signs):
    equations = {}
    for sign in signs:
        rest = unsettled(sign, equations)
        if rest > 0:
            equations[lowest_bit(rest)] = rest
    return equations


def how_many(equations):
    if ALWAYS in equations:
        return 0
    return 1 << (MOTHER_ROWS - len(equations))


# An equation settles its lowest bit by higher ones. So the bits that are free,
# filled with those of k from the highest down, keep the charts' order.
def chart_number(equations, k):
    number = ALWAYS
    free = MOTHER_ROWS - len(equations)
    for height in range(MOTHER_ROWS - 1, -1, -1):
        bit = 1 << height
        if bit in equations:
            number = number + bit * odd_bits(equations[bit] & number)
        else:
            free = free - 1
            number = number + bit * ((k >> free) % 2)
    return number - ALWAYS


def figure_of(rows, number):
    return sum([bit * odd_bits(row & number) for bit, row in zip(ROW_BITS, rows)])


def rows_with_rest(rests, rest):
    return sum([bit for bit, other in zip(ROW_BITS, rests) if other == rest])


def sign_of(total, odd):
    if odd > 0:
        return total + ALWAYS
    return total


def figure_signs(rows, form):
    return [sign_of(row, form & bit) for bit, row in zip(ROW_BITS, rows)]


def number_of_marks(marks):
    number = 0
    for mark in marks:
        number = number * 2 + mark % 2
    return number


# A place that was added stands behind the two it was added of. So, gone through
# from the judge down, each place is settled before it is gone on from.
def way_of_the_point(figures):
    reached = [place == JUDGE for place in range(16)]
    for place in range(JUDGE, FIRST_ADDED - 1, -1):
        for origin in ADDED_PLACES[place - FIRST_ADDED]:
            if reached[place] and (figures[origin] & ROW_BITS[0]) == (figures[place] & ROW_BITS[0]):
                reached[origin] = True
    return [place for place in range(16) if reached[place]]


# Sets are rising lists of numbers; where those that come in stand in order by
# where they first differ, those that go out do too.
def one_larger(sets, below):
    larger = []
    for numbers in sets:
        for number in range(max(numbers, default=-1) + 1, below):
            larger.append(numbers + [number])
    return larger


def without(signs, left_out):
    return [sign for number, sign in enumerate(signs) if number not in left_out]


# The sets are tried from the smallest on; that of all signs, the last, always
# does, as each chart agrees where nothing is told.
def lies(signs):
    sets = [[]]
    while True:
        for left_out in sets:
            if how_many(solved(without(signs, left_out))) > 0:
                return left_out
        sets = one_larger(sets, len(signs))


def is_place(number):
    return 0 <= number <= 15


def is_row(number):
    return 0 <= number <= 3


def is_figure(number):
    return 0 <= number <= 15


class Sand:
    def __init__(self):
        self.sums = row_sums()
        self.signs = []

    def all_figures(self, number):
        return [figure_of(rows, number) for rows in self.sums]

    def agreeing(self):
        return [how_many(solved(self.signs))]

    def take(self, signs):
        if len(self.signs) + len(signs) > MOST_SIGNS:
            return [TOO_MANY_SIGNS]
        self.signs = self.signs + signs
        return self.agreeing()

    def clears(self):
        self.signs = []
        return [0]

    def points(self, place, row, dots):
        if not (is_place(place) and is_row(row) and 1 <= dots <= 2):
            return [WRONG_NUMBER]
        return self.take([sign_of(self.sums[place][row], 2 - dots)])

    def figure(self, place, form):
        if not (is_place(place) and is_figure(form)):
            return [WRONG_NUMBER]
        return self.take(figure_signs(self.sums[place], form))

    def like(self, place, other, row, alike):
        if not (is_place(place) and is_place(other) and is_row(row) and 0 <= alike <= 1):
            return [WRONG_NUMBER]
        both = self.sums[place][row] ^ self.sums[other][row]
        return self.take([sign_of(both, 1 - alike)])

    def drop(self, sign):
        if sign >= len(self.signs):
            return [NO_SUCH_SIGN]
        self.signs = self.signs[:sign] + self.signs[sign + 1:]
        return self.agreeing()

    def chart(self, k):
        equations = solved(self.signs)
        if k >= how_many(equations):
            return [NO_SUCH_CHART]
        return [0] + self.all_figures(chart_number(equations, k))

    def sure(self):
        equations = solved(self.signs)
        if how_many(equations) == 0:
            return [NO_CHART_AGREES]
        settled = 0
        told = []
        for rows in self.sums:
            rests = [unsettled(row, equations) for row in rows]
            settled = settled + rests.count(ALWAYS) + rests.count(0)
            told.extend([rows_with_rest(rests, ALWAYS), rows_with_rest(rests, 0)])
        return [settled] + told

    def may_stand(self, place, form):
        return how_many(solved(self.signs + figure_signs(self.sums[place], form))) > 0

    def may(self, place):
        if not is_place(place):
            return [WRONG_NUMBER]
        forms = [form for form in range(16) if self.may_stand(place, form)]
        # A chart that agrees has some figure there, so without one there's no such chart.
        if len(forms) == 0:
            return [NO_CHART_AGREES]
        return [len(forms)] + forms

    def read(self, number):
        if number > LAST_CHART:
            return [WRONG_NUMBER]
        figures = self.all_figures(number)
        way = way_of_the_point(figures)
        return [0] + figures + [len(set(figures)), len(way)] + way

    def honest(self):
        if len(self.signs) > MOST_SIGNS_OF_HONEST:
            return [TOO_MANY_FOR_HONEST]
        left_out = lies(self.signs)
        others = without(self.signs, left_out)
        return [len(left_out)] + left_out + [how_many(solved(others))]


def answer(sand, call, numbers):
    if call == CLEARS:
        return sand.clears()
    if call == POINTS:
        return sand.points(numbers[0], numbers[1], numbers[2])
    if call == FIGURE:
        return sand.figure(numbers[0], numbers[1])
    if call == LIKE:
        return sand.like(numbers[0], numbers[1], numbers[2], numbers[3])
    if call == DROP:
        return sand.drop(numbers[0])
    if call == CHART:
        return sand.chart(numbers[0])
    if call == SURE:
        return sand.sure()
    if call == MAY:
        return sand.may(numbers[0])
    if call == CAST:
        return [number_of_marks(numbers[1:])]
    if call == READ:
        return sand.read(numbers[0])
    return sand.honest()


def answers(calls):
    sand = Sand()
    told = []
    at = 0
    while at < len(calls):
        call = calls[at]
        behind = at + 1 + NUMBERS_OF_CALL[call]
        numbers = answer(sand, call, calls[at + 1:behind])
        told.append(len(numbers))
        told.extend(numbers)
        at = behind
    return told
