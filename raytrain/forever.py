"""Whether the values u(0), u(1), u(2) and so on of a half-plane along the ways of a ray are at most 0 for ever."""

from raytrain.hills import FOUR, TWO, hill_stays_below, square_of
from raytrain.rationals import (
    ZERO, absolute, add, divide, fraction, greatest_of, is_at_most, is_less, multiply, negative, sign, subtract,
)


def stays_below(first, second, third, trace):
    """Return whether all values u are at most 0, by the first three of them and the trace of the map."""
    if sign(greatest_of([first, second, third])) > 0:
        return False
    # u(n + 2) is trace * u(n + 1) - u(n) plus this, for all n.
    constant = add(subtract(third, multiply(trace, second)), first)
    if trace == TWO:
        return parabola_stays_below(first, second, constant)
    middle = divide(constant, subtract(TWO, trace))
    one = subtract(first, middle)
    two = subtract(second, middle)
    if is_less(TWO, trace):
        return branch_stays_below(one, two, trace, middle)
    if is_at_most(trace, negative(TWO)):
        return stays_between(one, two, trace)
    if trace[1] == 1:
        return round_stays_below(first, second, trace, constant)
    return ellipse_stays_below(one, two, trace, middle)


def parabola_stays_below(first, second, bend):
    """Return whether all values are at most 0 if their growth grows by the bend with each way; the first one is."""
    growth = subtract(second, first)
    if sign(bend) >= 0:
        return bend == ZERO and sign(growth) <= 0
    # The greatest value is the first one behind which there is no growth.
    numerator, denominator = divide(growth, bend)
    ways = max(0, -(numerator // denominator))
    bends = multiply(fraction(ways * (ways - 1), 2), bend)
    return sign(add(first, add(multiply(fraction(ways), growth), bends))) <= 0


def round_stays_below(first, second, trace, constant):
    """Return whether the values for the trace -1, 0 or 1, which come back after 3, 4 or 6 ways, are at most 0."""
    values = [first, second]
    for _ in range(4):
        values.append(add(subtract(multiply(trace, values[-1]), values[-2]), constant))
    return sign(greatest_of(values)) <= 0


def ellipse_stays_below(one, two, trace, middle):
    """Return whether middle + e is at most 0 for all e, which come near to any number between two bounds."""
    square = multiply(FOUR, square_of(one, two, trace))
    bound = divide(square, subtract(FOUR, multiply(trace, trace)))
    return sign(middle) <= 0 and is_at_most(bound, multiply(middle, middle))


def stays_between(one, two, trace):
    """Return whether all e lie between the first two of them, for a trace of at most -2."""
    # Otherwise they take both signs in turn, and grow without end.
    return square_of(one, two, trace) == ZERO and is_at_most(absolute(two), absolute(one))


def branch_stays_below(one, two, trace, middle):
    """Return whether middle + e is at most 0 for all e, for a trace above 2, if it is for the first one."""
    side = sign(square_of(one, two, trace))
    if side < 0 and sign(one) > 0:
        # The values e stay above 0, and fall at most in the beginning.
        return False
    if is_at_most(two, one):
        return True
    if side > 0 or sign(one) >= 0:
        return False
    if side == 0:
        # The values e rise, and only come near to 0.
        return sign(middle) <= 0
    return hill_stays_below(one, two, trace, middle)
