"""Fractions: tuples (top, bottom) of whole numbers in lowest terms, the bottom from 1 on."""

from knockwright.errors import NoNumber

LONG_BITS = 4000
LEADING_BITS = 256


def is_whole(thing):
    # Python counts True and False among its ints; here they are no numbers.
    return isinstance(thing, int) and not isinstance(thing, bool)


# Of two long numbers the leading bits alone tell the first steps to their divisor. So these are found with short
# numbers, and done to the long ones all at once: a step can be taken back, so the divisor stays, whatever the other
# bits are.


def leading_steps(great, small):
    shift = max(great, small).bit_length() - LEADING_BITS
    high = great >> shift
    low = small >> shift
    # How often the great one and the small one go into the high one, and into the low one.
    high_great = 1
    high_small = 0
    low_great = 0
    low_small = 1
    # With half the bits used up, those that were left away begin to tell.
    while low > 10 ** 38:
        often = high // low
        rest = high - often * low
        rest_great = high_great - often * low_great
        rest_small = high_small - often * low_small
        high = low
        high_great = low_great
        high_small = low_small
        low = rest
        low_great = rest_great
        low_small = rest_small
    return (high_great, high_small, low_great, low_small)


def common_divisor(one, other):
    great = abs(one)
    small = abs(other)
    while min(great, small).bit_length() > LONG_BITS:
        steps = leading_steps(great, small)
        if steps[1] == 0:
            # The two are too far from one another for their leading bits to tell a step.
            rest = great % small
            great = small
        else:
            rest = abs(steps[2] * great + steps[3] * small)
            great = abs(steps[0] * great + steps[1] * small)
        small = rest
    while small > 0:
        rest = great % small
        great = small
        small = rest
    return great


def is_fraction(thing):
    if not isinstance(thing, tuple) or len(thing) != 2:
        return False
    top = thing[0]
    bottom = thing[1]
    if not is_whole(top) or not is_whole(bottom):
        return False
    return bottom >= 1 and common_divisor(top, bottom) == 1


def fraction(top, bottom=1):
    if not is_whole(top) or not is_whole(bottom):
        raise NoNumber("a fraction is made of two whole numbers")
    if bottom == 0:
        raise NoNumber("nothing is divided by 0")
    divisor = common_divisor(top, bottom)
    if bottom < 0:
        # The sign belongs to the top alone, so that equal fractions are equal tuples.
        divisor = -divisor
    return (top // divisor, bottom // divisor)


# Here the divisors are taken out ahead of multiplying: those of long numbers are found the slower by far.


def plus(one, other):
    shared = common_divisor(one[1], other[1])
    top = one[0] * (other[1] // shared) + other[0] * (one[1] // shared)
    # As both are in lowest terms, what divides top and bottom of the sum divides the shared divisor, too.
    divisor = common_divisor(top, shared)
    return (top // divisor, one[1] // shared * (other[1] // divisor))


def minus(one, other):
    return plus(one, (-other[0], other[1]))


def times(one, other):
    first = common_divisor(one[0], other[1])
    second = common_divisor(other[0], one[1])
    return (one[0] // first * (other[0] // second), one[1] // second * (other[1] // first))


def over(one, other):
    if other[0] == 0:
        raise NoNumber("nothing is divided by 0")
    flipped = (other[1], other[0]) if other[0] > 0 else (-other[1], -other[0])
    return times(one, flipped)


def under(one, other):
    return one[0] * other[1] < other[0] * one[1]


def figures(number):
    # Python writes no number of some thousand figures at once, so each is written in pieces.
    step = 10 ** 64
    pieces = []
    rest = number
    while rest >= step:
        pieces.append(str(rest % step).zfill(64))
        rest = rest // step
    pieces.append(str(rest))
    return "".join(reversed(pieces))


def shown(one):
    sign = "-" if one[0] < 0 else ""
    top = sign + figures(abs(one[0]))
    if one[1] == 1:
        return top
    return top + "/" + figures(one[1])
