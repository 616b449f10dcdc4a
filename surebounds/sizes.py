"""Nominal sizes and their limits, in ticks: units, widths, steps and codes."""

MOST_NOMINAL = 2147483647
MOST_DEVIATION = 1073741824
UNIT_FACTOR = 111
LETTER_H = 8
FIRST_SHAFT = 97
FIRST_HOLE = 65


def is_nominal(nominal):
    return 1 <= nominal <= MOST_NOMINAL


def are_fit(nominal, lo, hi):
    if lo > hi or nominal + lo < 1:
        return False
    return abs(lo) <= MOST_DEVIATION and abs(hi) <= MOST_DEVIATION


def unit(nominal):
    # A nominal size's unit is 269 at most, so counting up to it is short.
    found = 1
    while UNIT_FACTOR * found * found * found < nominal:
        found = found + 1
    return found


def root_upwards(square):
    # Halving, since a wide grade's root is too far up to count to.
    below = -1
    enough = square
    while enough - below > 1:
        middle = (below + enough) // 2
        if middle * middle >= square:
            enough = middle
        else:
            below = middle
    return enough


def width(grade, nominal):
    square = unit(nominal) ** 2
    for doubling in range(grade):
        square = square * 2
    return root_upwards(square)


def step(number, nominal):
    if number == 0:
        return 0
    return width(number + 3, nominal)


def is_shaft(letter):
    return letter >= FIRST_SHAFT


def letter_number(letter):
    first = FIRST_SHAFT if is_shaft(letter) else FIRST_HOLE
    return letter - first + 1 - LETTER_H


def code_limits(letter, grade, nominal):
    number = letter_number(letter)
    away = step(abs(number), nominal)
    wide = width(grade, nominal)
    # Shafts up to h lie below the nominal size and holes up to H above it; behind h it is the other way.
    if is_shaft(letter) == (number <= 0):
        return (-away - wide, -away)
    return (away, away + wide)
