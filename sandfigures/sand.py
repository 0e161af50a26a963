"""One sand, its signs, and the charts that agree with them.

Two figures are added row by row, modulo two. So each row of each place is a
sum of some of the mothers' sixteen rows. A sum is kept as a whole number: it
has the bits at which a chart's number holds those rows, and the row has one
point just if an odd count of the sum's bits is in the chart's number.

A sign is kept as a sum that has to be even. Where it tells of something odd,
ALWAYS is added: a bit above all charts' numbers that each chart counts as its
own. Signs are then equations, and the charts that agree need not be tried out.
"""

MOTHER_ROWS = 16
ALWAYS = 65536
ROW_BITS = (8, 4, 2, 1)
ADDED_PLACES = ((0, 1), (2, 3), (4, 5), (6, 7), (8, 9), (10, 11), (12, 13), (14, 0))
MOST_SIGNS = 24

WRONG_NUMBER = -1
NO_SUCH_SIGN = -2
NO_SUCH_CHART = -3
TOO_MANY_SIGNS = -5

CLEARS = 0
POINTS = 1
FIGURE = 2
LIKE = 3
DROP = 4

# By a call's number, as above and 5 for chart: how many numbers stand behind it.
NUMBERS_OF_CALL = {0: 0, 1: 3, 2: 2, 3: 4, 4: 1, 5: 1}


def mother_sums(place):
    return [1 << (15 - 4 * place - row) for row in range(4)]


def row_sums():
    sums = [mother_sums(place) for place in range(4)]
    for daughter in range(4):
        sums.append([sums[mother][daughter] for mother in range(4)])
    for pair in ADDED_PLACES:
        sums.append([sums[pair[0]][row] ^ sums[pair[1]][row] for row in range(4)])
    return sums


def odd_bits(number):
    odd = 0
    rest = number
    while rest > 0:
        odd = odd ^ (rest % 2)
        rest = rest // 2
    return odd


def lowest_bit(number):
    bit = 1
    while (number & bit) == 0:
        bit = bit * 2
    return bit


# Equations that tell the same as the signs, each under its lowest bit: no two
# share that bit, so each of them halves the charts that agree. One whose lowest
# bit is ALWAYS can't be even: the signs contradict one another then.
def solved(signs):
    equations = {}
    for sign in signs:
        rest = sign
        while rest > 0 and lowest_bit(rest) in equations:
            rest = rest ^ equations[lowest_bit(rest)]
        if rest > 0:
            equations[lowest_bit(rest)] = rest
    return equations


def how_many(equations):
    if ALWAYS in equations:
        return 0
    return 1 << (MOTHER_ROWS - len(equations))


# An equation settles its lowest bit by higher ones. So the bits that are free,
# filled with those of k from the highest down, keep the charts' order.
def chart_number(equations, k):
    number = ALWAYS
    free = MOTHER_ROWS - len(equations)
    for height in range(MOTHER_ROWS - 1, -1, -1):
        bit = 1 << height
        if bit in equations:
            number = number + bit * odd_bits(equations[bit] & number)
        else:
            free = free - 1
            number = number + bit * ((k >> free) % 2)
    return number - ALWAYS


def figure_of(rows, number):
    return sum([bit * odd_bits(row & number) for bit, row in zip(ROW_BITS, rows)])


def sign_of(total, odd):
    if odd > 0:
        return total + ALWAYS
    return total


def is_place(number):
    return 0 <= number <= 15


def is_row(number):
    return 0 <= number <= 3


def is_figure(number):
    return 0 <= number <= 15


class Sand:
    def __init__(self):
        self.sums = row_sums()
        self.signs = []

    def agreeing(self):
        return [how_many(solved(self.signs))]

    def take(self, signs):
        if len(self.signs) + len(signs) > MOST_SIGNS:
            return [TOO_MANY_SIGNS]
        self.signs = self.signs + signs
        return self.agreeing()

    def clears(self):
        self.signs = []
        return [0]

    def points(self, place, row, dots):
        if not (is_place(place) and is_row(row) and 1 <= dots <= 2):
            return [WRONG_NUMBER]
        return self.take([sign_of(self.sums[place][row], 2 - dots)])

    def figure(self, place, form):
        if not (is_place(place) and is_figure(form)):
            return [WRONG_NUMBER]
        return self.take([sign_of(row, form & bit) for bit, row in zip(ROW_BITS, self.sums[place])])

    def like(self, place, other, row, alike):
        if not (is_place(place) and is_place(other) and is_row(row) and 0 <= alike <= 1):
            return [WRONG_NUMBER]
        both = self.sums[place][row] ^ self.sums[other][row]
        return self.take([sign_of(both, 1 - alike)])

    def drop(self, sign):
        if sign >= len(self.signs):
            return [NO_SUCH_SIGN]
        self.signs = self.signs[:sign] + self.signs[sign + 1:]
        return self.agreeing()

    def chart(self, k):
        equations = solved(self.signs)
        if k >= how_many(equations):
            return [NO_SUCH_CHART]
        number = chart_number(equations, k)
        return [0] + [figure_of(rows, number) for rows in self.sums]


def answer(sand, call, numbers):
    if call == CLEARS:
        return sand.clears()
    if call == POINTS:
        return sand.points(numbers[0], numbers[1], numbers[2])
    if call == FIGURE:
        return sand.figure(numbers[0], numbers[1])
    if call == LIKE:
        return sand.like(numbers[0], numbers[1], numbers[2], numbers[3])
    if call == DROP:
        return sand.drop(numbers[0])
    return sand.chart(numbers[0])


def answers(calls):
    sand = Sand()
    told = []
    at = 0
    while at < len(calls):
        call = calls[at]
        behind = at + 1 + NUMBERS_OF_CALL[call]
        numbers = answer(sand, call, calls[at + 1:behind])
        told.append(len(numbers))
        told.extend(numbers)
        at = behind
    return told
