"""Fractions: tuples (top, bottom) in lowest terms, the bottom from 1 on."""

from flipwright.errors import NoShare

NOUGHT = (0, 1)
WHOLE = (1, 1)


def greatest_divisor(one, other):
    one = abs(one)
    other = abs(other)
    while other != 0:
        rest = one % other
        one = other
        other = rest
    return one


def fraction(top, bottom):
    if bottom == 0:
        raise NoShare("a fraction's bottom is not 0")
    divisor = greatest_divisor(top, bottom)
    if bottom < 0:
        divisor = -divisor
    return (top // divisor, bottom // divisor)


# Below, both fractions are in lowest terms already. So only small divisors have to be looked for, and no divisor of
# the whole result: a long sum of small shares would be slow otherwise.


def plus(one, other):
    shared = greatest_divisor(one[1], other[1])
    lacking = other[1] // shared
    top = one[0] * lacking + other[0] * (one[1] // shared)
    # What divides both the top and the whole bottom divides what the two bottoms share.
    divisor = greatest_divisor(top, shared)
    return (top // divisor, one[1] // divisor * lacking)


def minus(one, other):
    return plus(one, (-other[0], other[1]))


def times(one, other):
    first = greatest_divisor(one[0], other[1])
    second = greatest_divisor(other[0], one[1])
    return (one[0] // first * (other[0] // second), one[1] // second * (other[1] // first))


def over(one, other):
    if other[0] == 0:
        raise NoShare("nothing is divided by (0, 1)")
    if other[0] < 0:
        return times(one, (-other[1], -other[0]))
    return times(one, (other[1], other[0]))


def under(one, other):
    return one[0] * other[1] < other[0] * one[1]
