"""Whether values that rise and later fall stay at most 0, though they may rise for very many steps.

The values are e(n) + middle, where e(n + 2) = trace * e(n + 1) - e(n), the trace is above 2, all e(n) are below 0,
e(1) is above e(0), and the first value is at most 0. With Q as in [34], the greatest number that e would take
between the steps has the square 4 * Q / (4 - trace * trace).
"""

from raytrain.rationals import add, divide, is_at_most, is_less, multiply, negative, sign, subtract, whole_numbers

TWO = (2, 1)
FOUR = (4, 1)
FIRST_BITS = 64


def square_of(one, two, trace):
    """Return the number Q of [34], by two values e that follow each other."""
    squares = add(multiply(one, one), multiply(two, two))
    return subtract(squares, multiply(trace, multiply(one, two)))


def hill_stays_below(first, second, trace, middle):
    """Return whether all values are at most 0, by e(0) and e(1)."""
    if sign(middle) <= 0:
        return True
    square = square_of(first, second, trace)
    level = multiply(middle, middle)
    if is_at_most(level, divide(multiply(FOUR, square), subtract(FOUR, multiply(trace, trace)))):
        return True
    if is_less(divide(square, subtract(TWO, trace)), level):
        # The values would be above 0 for longer than one step.
        return False
    told = told_by_steps(first, second, trace, middle, steps_to_try(first, square, middle))
    return told_by_jumps(first, second, trace, middle) if told is None else told


def steps_to_try(first, square, middle):
    """Return a number of steps behind which the values still rise only if the trace is not whole.

    Then a prime divides its denominator, and from this step on, if not before, the power of this prime in the
    denominator of e(n) grows with each step: no e(n) is equal to e(n + 1), or to -middle.
    """
    return 3 + sum([abs(part).bit_length() for value in (first, square, middle) for part in value])


def told_by_steps(first, second, trace, middle, most):
    """Return whether all values are at most 0, by the first ones of them, or None if these do not tell it."""
    p, q = trace
    # The integers are e(n), e(n + 1) and -middle, all times the same positive number.
    here, there, level = whole_numbers([first, second, negative(middle)])
    for _ in range(most):
        if here > level:
            return False
        if there <= here:
            return True
        here, there, level = there * q, there * p - here * q, level * q
    return None


def told_by_jumps(first, second, trace, middle):
    """Return whether all values are at most 0, if no two that follow each other are equal and none is 0."""
    third = subtract(multiply(trace, second), first)
    rise = form_of(subtract(second, first), subtract(third, second), trace, (0, 1))
    value = form_of(first, second, trace, middle)
    bits = FIRST_BITS
    told = None
    while told is None:
        told = told_with_bits(rise, value, trace, bits)
        bits = bits * 2
    return told


def form_of(first, second, trace, constant):
    """Return integers (x, y, z) such that x * S(n) + y * V(n) + z has the sign of e(n) + constant.

    S and V are the sequences with S(0) = 0, S(1) = 1, V(0) = 2 and V(1) = trace that go on as e does.
    """
    by_s = subtract(multiply(TWO, second), multiply(trace, first))
    return whole_numbers([by_s, first, multiply(TWO, constant)])


def told_with_bits(rise, value, trace, bits):
    """Return what told_by_jumps does, or None if numbers that are rounded to so many bits do not tell it."""
    p, q = trace
    t = (p << bits) // q
    single = ((1 << bits, t), (1 << bits, t + 1))
    powers = [single]
    while sign_at(rise, powers[-1], bits) > 0:
        powers.append(joined(powers[-1], powers[-1], trace, bits))
    reached = ((0, 2 << bits), (0, 2 << bits))
    for power in reversed(powers):
        further = joined(reached, power, trace, bits)
        told = sign_at(rise, further, bits)
        if told == 0:
            return None
        if told > 0:
            reached = further
    told = sign_at(value, joined(reached, single, trace, bits), bits)
    return None if told == 0 else told < 0


def joined(one, other, trace, bits):
    """Return the bounds of S and V behind the steps of both: a tuple of the lower ones and a tuple of the upper ones.

    S(m + n) = (S(m) * V(n) + V(m) * S(n)) / 2 and V(m + n) = (V(m) * V(n) + (trace * trace - 4) * S(m) * S(n)) / 2.
    """
    lower = rounded_down(one[0], other[0], trace, bits)
    s, v = rounded_down(one[1], other[1], trace, bits)
    return (lower, (s + 1, v + 1))


def rounded_down(one, other, trace, bits):
    """Return S and V behind the steps of both, rounded down, in units of which 1 << bits are 1."""
    s, v = one
    u, w = other
    p, q = trace
    square = q * q
    by_v = v * w * square + (p * p - 4 * square) * s * u
    return ((s * w + v * u) >> (bits + 1), by_v // (square << (bits + 1)))


def sign_at(form, bounds, bits):
    """Return the sign of x * S + y * V + z between bounds of S and V, or 0 if they do not tell it."""
    x, y, z = form
    (least_s, least_v), (most_s, most_v) = bounds
    least = x * (least_s if x > 0 else most_s) + y * (least_v if y > 0 else most_v) + (z << bits)
    most = x * (most_s if x > 0 else least_s) + y * (most_v if y > 0 else least_v) + (z << bits)
    if least > 0:
        return 1
    return -1 if most < 0 else 0
