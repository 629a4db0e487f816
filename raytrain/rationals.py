"""Exact fractions: tuples (numerator, denominator) in lowest terms, with a denominator of at least 1."""

from math import gcd

ZERO = (0, 1)
ONE = (1, 1)


def common_divisor(first, second):
    """Return the greatest common divisor of two integers, 0 for two zeros."""
    return gcd(first, second)


def fraction(numerator, denominator=1):
    """Return the fraction of two integers, the second one not 0."""
    if denominator < 0:
        numerator, denominator = -numerator, -denominator
    divisor = common_divisor(numerator, denominator)
    return (numerator // divisor, denominator // divisor)


def add(first, second):
    """Return the sum of two fractions."""
    return fraction(first[0] * second[1] + second[0] * first[1], first[1] * second[1])


def subtract(first, second):
    """Return the first fraction minus the second one."""
    return add(first, negative(second))


def multiply(first, second):
    """Return the product of two fractions."""
    return fraction(first[0] * second[0], first[1] * second[1])


def divide(first, second):
    """Return the first fraction divided by the second one, which is not 0."""
    return fraction(first[0] * second[1], first[1] * second[0])


def negative(value):
    """Return the fraction with the opposite sign."""
    return (-value[0], value[1])


def absolute(value):
    """Return the fraction without its sign."""
    return (abs(value[0]), value[1])


def sign(value):
    """Return -1, 0 or 1, as the fraction is below, equal to or above 0."""
    return compare(value, ZERO)


def compare(first, second):
    """Return -1, 0 or 1, as the first fraction is below, equal to or above the second one."""
    left = first[0] * second[1]
    right = second[0] * first[1]
    if left < right:
        return -1
    return 1 if left > right else 0


def is_less(first, second):
    """Return whether the first fraction is below the second one."""
    return compare(first, second) < 0


def is_at_most(first, second):
    """Return whether the first fraction is not above the second one."""
    return compare(first, second) <= 0


def least_of(values):
    """Return the least fraction of a list in which None counts as nothing, or None."""
    least = None
    for value in values:
        if value is not None and (least is None or is_less(value, least)):
            least = value
    return least


def greatest_of(values):
    """Return the greatest fraction of a list in which None counts as nothing, or None."""
    greatest = None
    for value in values:
        if value is not None and (greatest is None or is_less(greatest, value)):
            greatest = value
    return greatest


def nearest_to_zero(lower, upper):
    """Return the fraction between two bounds, None for no bound, that is nearest to 0."""
    if lower is not None and sign(lower) > 0:
        return lower
    if upper is not None and sign(upper) < 0:
        return upper
    return ZERO


def span_between(lowers, uppers):
    """Return the greatest of some lower bounds and the least of some upper ones, or None if no number keeps all.

    None stands in place of a bound that there is not.
    """
    lower = greatest_of(lowers)
    upper = least_of(uppers)
    if lower is not None and upper is not None and is_less(upper, lower):
        return None
    return (lower, upper)


def whole_numbers(values):
    """Return the integers that are the same positive multiple of the fractions of a list."""
    scale = 1
    for value in values:
        scale = scale * value[1]
    return [numerator * (scale // denominator) for numerator, denominator in values]
