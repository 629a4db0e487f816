"""What several test files share: fractions of Python's own as an independent reckoning."""

import itertools
from fractions import Fraction

WIDE = 2 ** 64 + 13
HUGE = 10 ** 60 + 7


def pair(value, denominator=1):
    """Return the tuple of a fraction, reckoned without the package."""
    exact = Fraction(value, denominator)
    return (exact.numerator, exact.denominator)


def exact(value):
    """Return the Fraction of a tuple."""
    return Fraction(value[0], value[1])


def small_fractions():
    """Return the different fractions with small numerators and denominators, of both signs."""
    numbers = {Fraction(top, bottom) for top in range(-6, 7) for bottom in range(1, 6)}
    return [pair(number) for number in sorted(numbers)]


def wide_fractions():
    """Return fractions whose parts have more than 64 bits, of both signs, and a few small ones."""
    tops = [WIDE, -WIDE, HUGE, -HUGE, 3 * WIDE, 1, -1, 0]
    bottoms = [1, WIDE, HUGE, 3 * HUGE]
    numbers = {Fraction(top, bottom) for top, bottom in itertools.product(tops, bottoms)}
    return [pair(number) for number in sorted(numbers)]


def is_fraction(value):
    """Return whether a value has the one form of a fraction: a tuple of integers in lowest terms."""
    return (isinstance(value, tuple) and len(value) == 2
            and [type(part) for part in value] == [int, int]
            and value[1] >= 1 and value == pair(value[0], value[1]))
