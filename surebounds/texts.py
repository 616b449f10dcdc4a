"""A size's text: its shape, its faults, and what it says."""

from surebounds.sizes import MOST_DEVIATION, are_fit, code_limits, is_nominal

NOTHING = -1
BLANK = 32
PLUS = 43
MINUS = 45
POINT = 46
DIGIT_0 = 48
DIGIT_9 = 57
MOST_WHOLE_DIGITS = 9
TICKS = 10000

PLAIN = 0
EVEN = 1
UNEVEN = 2
CODED = 3


class SizeFault(ValueError):

    def __init__(self, kind, place):
        ValueError.__init__(self, kind, place)
        self.kind = kind
        self.place = place


class Size:

    def __init__(self, shape, limits):
        self.nominal = shape.nominal
        self.lo = limits[0]
        self.hi = limits[1]
        self.form = shape.form
        self.letter = shape.letter
        self.grade = shape.grade


class Shape:

    def __init__(self, nominal):
        self.nominal = nominal
        self.form = PLAIN
        self.behind = 0
        # Each of them with the place of its first digit, where a fault of it is told.
        self.deviations = []
        self.letter = 0
        self.grade = 0


def is_digit(byte):
    return DIGIT_0 <= byte <= DIGIT_9


def is_letter(byte):
    return 65 <= byte <= 90 or 97 <= byte <= 122


# A reader takes no byte that no size's text could have there, so where it stops a fault of the shape is.
class Reader:

    def __init__(self, text):
        self.text = text
        self.at = 0

    def ahead(self):
        if self.at < len(self.text):
            return self.text[self.at]
        return NOTHING

    def demand(self, fine):
        if not fine:
            raise SizeFault(1, self.at)

    def take(self, byte):
        self.demand(self.ahead() == byte)
        self.at = self.at + 1

    def take_digit(self):
        byte = self.ahead()
        self.demand(is_digit(byte))
        self.at = self.at + 1
        return byte - DIGIT_0

    def take_whole(self):
        whole = self.take_digit()
        digits = 1
        while whole > 0 and digits < MOST_WHOLE_DIGITS and is_digit(self.ahead()):
            whole = whole * 10 + self.take_digit()
            digits = digits + 1
        return whole

    def take_fraction(self):
        ticks = 0
        worth = TICKS // 10
        digit = 0
        # A 0 is no end, so behind one another digit has to come.
        while worth > 0 and (digit == 0 or is_digit(self.ahead())):
            digit = self.take_digit()
            ticks = ticks + digit * worth
            worth = worth // 10
        if digit == 0:
            raise SizeFault(1, self.at - 1)
        return ticks

    def take_number(self):
        ticks = self.take_whole() * TICKS
        if self.ahead() == POINT:
            self.take(POINT)
            ticks = ticks + self.take_fraction()
        return ticks

    def take_deviation(self):
        sign = self.ahead()
        self.demand(sign == PLUS or sign == MINUS)
        self.take(sign)
        place = self.at
        ticks = self.take_number()
        if sign == PLUS:
            return (ticks, place)
        # Only -0 itself comes to nothing: a fraction never ends in 0.
        self.demand(ticks > 0)
        return (-ticks, place)

    def take_grade(self):
        grade = self.take_digit()
        if grade == 1 and DIGIT_0 <= self.ahead() <= DIGIT_0 + 6:
            grade = 10 + self.take_digit()
        return grade

    def is_even(self):
        return self.text[self.at:self.at + 2] == [PLUS, MINUS]


def take_even(reader, shape):
    shape.form = EVEN
    reader.take(PLUS)
    reader.take(MINUS)
    place = reader.at
    shape.deviations = [(reader.take_number(), place)]


def take_code(reader, shape):
    shape.form = CODED
    shape.letter = reader.ahead()
    reader.take(shape.letter)
    shape.grade = reader.take_grade()


def take_uneven(reader, shape):
    shape.form = UNEVEN
    first = reader.take_deviation()
    reader.take(BLANK)
    shape.deviations = [first, reader.take_deviation()]


def shape_of(text):
    reader = Reader(text)
    shape = Shape(reader.take_number())
    if reader.ahead() == BLANK:
        reader.take(BLANK)
        shape.behind = reader.at
        if reader.is_even():
            take_even(reader, shape)
        elif is_letter(reader.ahead()):
            take_code(reader, shape)
        else:
            take_uneven(reader, shape)
    reader.demand(reader.ahead() == NOTHING)
    return shape


def check_deviations(shape):
    for ticks, place in shape.deviations:
        if abs(ticks) > MOST_DEVIATION:
            raise SizeFault(3, place)
    if shape.form == UNEVEN and shape.deviations[1][0] > shape.deviations[0][0]:
        raise SizeFault(4, shape.deviations[1][1] - 1)


def limits_of(shape):
    if shape.form == PLAIN:
        return (0, 0)
    if shape.form == CODED:
        return code_limits(shape.letter, shape.grade, shape.nominal)
    first = shape.deviations[0][0]
    if shape.form == EVEN:
        return (-first, first)
    return (shape.deviations[1][0], first)


def said(text):
    shape = shape_of(text)
    if not is_nominal(shape.nominal):
        raise SizeFault(2, 0)
    check_deviations(shape)
    limits = limits_of(shape)
    if not are_fit(shape.nominal, limits[0], limits[1]):
        raise SizeFault(5, shape.behind)
    return Size(shape, limits)
