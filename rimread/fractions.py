"""Exact fractions: tuples (top, bottom) in lowest terms, the bottom 1 or more."""

from rimread.errors import NoWorth

NOUGHT = (0, 1)
ONE = (1, 1)

LONG_BITS = 8000
LEADING_BITS = 120


# Euclid's way, told as (a, b, c, d): the pair (one, other) becomes (a one + b other, c one + d other).
# It goes on as long as the leading bits alone settle each quotient, whatever bits follow them (Lehmer).
def steps_settled(leading, lesser):
    a = 1
    b = 0
    c = 0
    d = 1
    while lesser + c != 0 and lesser + d != 0:
        quotient = (leading + a) // (lesser + c)
        if quotient != (leading + b) // (lesser + d):
            break
        after = (c, d, a - quotient * c, b - quotient * d)
        a = after[0]
        b = after[1]
        c = after[2]
        d = after[3]
        rest = leading - quotient * lesser
        leading = lesser
        lesser = rest
    return (a, b, c, d)


# Many of Euclid's steps at once: step by step, numbers of some ten thousand figures take too long,
# and the answers of a grid of sixteen rows with sixty figures each are as long as that.
def long_pair_lessened(one, other):
    shift = one.bit_length() - LEADING_BITS
    settled = steps_settled(one >> shift, other >> shift)
    if settled[1] == 0:
        return (other, one % other)
    return (settled[0] * one + settled[1] * other, settled[2] * one + settled[3] * other)


# Of two numbers of 0 or more.
def greatest_divisor(one, other):
    pair = (max(one, other), min(one, other))
    while pair[1].bit_length() > LONG_BITS:
        pair = long_pair_lessened(pair[0], pair[1])
    one = pair[0]
    other = pair[1]
    while other != 0:
        rest = one % other
        one = other
        other = rest
    return one


def fraction(top, bottom):
    if bottom == 0:
        raise NoWorth("a fraction has no bottom of 0")
    divisor = greatest_divisor(abs(top), abs(bottom))
    if bottom < 0:
        divisor = -divisor
    return (top // divisor, bottom // divisor)


def plus(one, other):
    return fraction(one[0] * other[1] + other[0] * one[1], one[1] * other[1])


def minus(one, other):
    return fraction(one[0] * other[1] - other[0] * one[1], one[1] * other[1])


def times(one, other):
    return fraction(one[0] * other[0], one[1] * other[1])


def over(one, other):
    return fraction(one[0] * other[1], one[1] * other[0])


def less(one, other):
    return one[0] * other[1] < other[0] * one[1]


# A truth is an int to Python, but no whole number here.
def is_whole(thing):
    return isinstance(thing, int) and not isinstance(thing, bool)


def is_worth(thing):
    if not isinstance(thing, tuple) or len(thing) != 2:
        return False
    top = thing[0]
    bottom = thing[1]
    if not is_whole(top) or not is_whole(bottom):
        return False
    return top > 0 and bottom > 0 and greatest_divisor(top, bottom) == 1
