"""Exact intervals, and the two roundings: outward and root.

Both ends of an interval stand over one denominator, so nothing is brought to
least terms between two roundings.
"""


class Interval:
    """From low by size to high by size; size is above 0, low at most high."""

    def __init__(self, low, high, size):
        self.low = low
        self.high = high
        self.size = size


def number(top, bottom):
    return Interval(top, top, bottom)


def whole(value):
    return Interval(value, value, 1)


def has_zero(a):
    return a.low <= 0 <= a.high


def negative(a):
    return Interval(-a.high, -a.low, a.size)


def plus(a, b):
    if a.size == b.size:
        return Interval(a.low + b.low, a.high + b.high, a.size)
    return Interval(a.low * b.size + b.low * a.size, a.high * b.size + b.high * a.size, a.size * b.size)


def minus(a, b):
    return plus(a, negative(b))


def times(a, b):
    products = [a.low * b.low, a.low * b.high, a.high * b.low, a.high * b.high]
    return Interval(min(products), max(products), a.size * b.size)


def square(a):
    ends = [a.low * a.low, a.high * a.high]
    return Interval(0 if has_zero(a) else min(ends), max(ends), a.size * a.size)


def over(a, b):
    """a by b, where 0 isn't in b."""
    # Both ends of b have one sign, so their product can stand below the two reciprocals.
    return times(a, Interval(b.size * b.low, b.size * b.high, b.low * b.high))


def signed(a, sign):
    """sign times a, where sign is 1 or -1."""
    return a if sign == 1 else negative(a)


def is_above(top, bottom, a):
    """Whether top by bottom is above the number a."""
    return top * a.size > a.low * bottom


def floor_share(top, bottom):
    return top // bottom


def ceiling_share(top, bottom):
    return -(-top // bottom)


def outward(a, p):
    scale = 1 << p
    return Interval(floor_share(a.low * scale, a.size), ceiling_share(a.high * scale, a.size), scale)


def floor_root(value):
    """The greatest whole number whose square isn't above value (0 at least)."""
    if value == 0:
        return 0
    # Newton's steps go down from any start that isn't below the root.
    guess = 1 << ((value.bit_length() + 1) // 2)
    lesser = (guess + value // guess) // 2
    while lesser < guess:
        guess = lesser
        lesser = (guess + value // guess) // 2
    return guess


def ceiling_root(value):
    below = floor_root(value)
    return below if below * below == value else below + 1


def root(a, p):
    """The root of a, whose low end is 0 at least."""
    scale = 1 << p
    squared = scale * scale
    low = floor_root(floor_share(a.low * squared, a.size))
    high = ceiling_root(ceiling_share(a.high * squared, a.size))
    return Interval(low, high, scale)
