"""Fractions: tuples (top, bottom) in lowest terms, the bottom above nought."""

NOUGHT = (0, 1)
ONE = (1, 1)


def common_divisor(one, other):
    larger = one
    lesser = other
    while lesser > 0:
        rest = larger % lesser
        larger = lesser
        lesser = rest
    return larger


def lowest(top, bottom):
    divisor = common_divisor(abs(top), abs(bottom))
    # A divisor with the bottom's sign leaves the bottom above nought.
    if bottom < 0:
        divisor = -divisor
    return (top // divisor, bottom // divisor)


def plus(one, other):
    return lowest(one[0] * other[1] + other[0] * one[1], one[1] * other[1])


def minus(one, other):
    return lowest(one[0] * other[1] - other[0] * one[1], one[1] * other[1])


def times(one, other):
    return lowest(one[0] * other[0], one[1] * other[1])


def over(one, other):
    return lowest(one[0] * other[1], one[1] * other[0])


def less(one, other):
    # Both bottoms are above nought, so this is the order of the fractions themselves.
    return one[0] * other[1] < other[0] * one[1]


def total(fractions):
    answer = NOUGHT
    for fraction in fractions:
        answer = plus(answer, fraction)
    return answer


def whole(number):
    return (number, 1)
