"""Exact fractions: tuples (top, bottom) of whole numbers in lowest terms, the bottom 1 or more."""


def greatest_divisor(one, two):
    while two != 0:
        rest = one % two
        one = two
        two = rest
    return one


def lowest(top, bottom):
    divisor = greatest_divisor(abs(top), abs(bottom))
    # A divisor below nought turns both signs, so that the bottom comes out above nought.
    if bottom < 0:
        divisor = -divisor
    return (top // divisor, bottom // divisor)


def plus(one, two):
    return lowest(one[0] * two[1] + two[0] * one[1], one[1] * two[1])


def minus(one, two):
    return lowest(one[0] * two[1] - two[0] * one[1], one[1] * two[1])


def times(one, two):
    return lowest(one[0] * two[0], one[1] * two[1])


def over(one, two):
    return lowest(one[0] * two[1], one[1] * two[0])


def less(one, two):
    # Both bottoms are above nought, so multiplying by them keeps the order.
    return one[0] * two[1] < two[0] * one[1]
