"""Point [34], and the heading raytrain/forever.py of the interface."""

import itertools
import random
import unittest
from fractions import Fraction
from math import isqrt

from raytrain.forever import stays_below
from tests.helper import HUGE, WIDE, pair

TINY = Fraction(1, 10 ** 30)


def values(first, second, third, trace, many):
    """Return the first values u, by their recursion."""
    constant = third - trace * second + first
    found = [Fraction(first), Fraction(second)]
    while len(found) < many:
        found.append(trace * found[-1] - found[-2] + constant)
    return found


def greatest_limit(first, second, third, trace):
    """Return a number just above the one that the values come near to, for a trace between -2 and 2."""
    middle = (third - trace * second + first) / (2 - trace)
    one, two = first - middle, second - middle
    square = 4 * (one * one - trace * one * two + two * two) / (4 - trace * trace)
    return middle + Fraction(isqrt(square.numerator * HUGE ** 2 // square.denominator) + 1, HUGE)


def told(first, second, third, trace):
    """Return what the program tells of values of Python's own."""
    return stays_below(pair(first), pair(second), pair(third), pair(trace))


def told_around(middle, one, two, trace):
    """Return what the program tells of the values middle + e, by the first two e."""
    return told(middle + one, middle + two, middle + trace * two - one, trace)


class Base(unittest.TestCase):
    def check(self, trace, numbers, expected):
        with self.subTest(trace=trace, numbers=numbers):
            self.assertIs(told(*[Fraction(number) for number in numbers], Fraction(trace)), expected)

    def check_around(self, trace, middle, one, two, expected):
        with self.subTest(trace=trace, middle=middle, one=one, two=two):
            numbers = [Fraction(number) for number in (middle, one, two, trace)]
            self.assertIs(told_around(*numbers), expected)


class AllTraces(Base):
    TRACES = [2, -2, -1, 0, 1, Fraction(1, 2), Fraction(-9, 5), Fraction(199, 100), 3, Fraction(5, 2), -3, -10,
              Fraction(-5, 2), HUGE, -HUGE, 2 + Fraction(1, HUGE), 2 - Fraction(1, HUGE), -2 - Fraction(1, HUGE)]

    def test_values_that_never_change(self):
        for trace in self.TRACES:
            self.check(trace, (0, 0, 0), True)
            self.check(trace, (-1, -1, -1), True)
            self.check(trace, (-HUGE, -HUGE, -HUGE), True)
            self.check(trace, (TINY, TINY, TINY), False)

    def test_one_of_the_first_values_is_above_0(self):
        for trace in self.TRACES:
            for numbers in itertools.permutations((TINY, -3, -5)):
                self.check(trace, numbers, False)

    def test_as_reckoned_value_by_value(self):
        chance = random.Random(341)
        numbers = [Fraction(top, bottom) - 2 for top in range(-8, 9) for bottom in (1, 2, 3)]
        found = {}
        for trace in [Fraction(trace) for trace in self.TRACES if abs(trace) <= 10 and trace * 100 % 1 == 0]:
            for _ in range(250):
                start = [chance.choice(numbers) for _ in range(3)]
                reckoned = max(values(*start, trace, 60)) <= 0
                answer = told(*start, trace)
                if not reckoned:
                    self.assertFalse(answer, (trace, start))
                elif abs(trace) < 2 and trace.denominator > 1:
                    # Only very late values may show it.
                    self.assertIs(greatest_limit(*start, trace) < TINY, answer, (trace, start))
                elif not answer:
                    self.assertGreater(max(values(*start, trace, 900)), 0, (trace, start))
                found.setdefault(answer, set()).add(trace)
        self.assertEqual(len(found[False]), 13)
        self.assertGreater(len(found[True]), 9)


class TraceTwo(Base):
    def test_without_bend(self):
        self.check(2, (-3, -2, -1), False)
        self.check(2, (-1 - HUGE, -HUGE, 1 - HUGE), False)
        self.check(2, (-3, -3 + TINY, -3 + 2 * TINY), False)
        self.check(2, (0, -1, -2), True)
        self.check(2, (0, -TINY, -2 * TINY), True)

    def test_bent_upwards(self):
        self.check(2, (-9, -10, -10), False)
        self.check(2, (0, -HUGE, TINY - 2 * HUGE), False)
        self.check(2, (-5, -5, -5 + TINY), False)

    def test_bent_downwards(self):
        # The values are -n * n + 6 * n + u(0): the greatest one is 9 + u(0).
        self.check(2, (-9, -4, -1), True)
        self.check(2, (-9 + TINY, -4 + TINY, -1 + TINY), False)
        # The values are -n * n + 5 * n + u(0): the greatest ones are 6 + u(0), and 25 / 4 + u(0) is between them.
        self.check(2, (-6, -2, 0), True)
        self.check(2, (-6 + TINY, -2 + TINY, TINY), False)
        self.check(2, (0, 0, -1), True)
        self.check(2, (0, -1, -3), True)
        self.check(2, (-1, 0, 0), True)

    def test_the_greatest_value_comes_late(self):
        for far in (1000, 10 ** 9, WIDE, HUGE):
            for start, expected in [(-far * far, True), (-far * far + TINY, False), (-far * far - TINY, True)]:
                numbers = [start - number * number + 2 * far * number for number in range(3)]
                self.check(2, numbers, expected)
            top = far * (far + 1)
            for start, expected in [(-top, True), (-top + TINY, False)]:
                numbers = [start - number * number + (2 * far + 1) * number for number in range(3)]
                self.check(2, numbers, expected)

    def test_all_small_parabolas(self):
        for start, growth, bend in itertools.product(range(-7, 1), range(-3, 7), range(-3, 2)):
            reckoned = [start + growth * n + bend * n * (n - 1) // 2 for n in range(40)]
            self.check(2, reckoned[:3], max(reckoned) <= 0)


class TracesThatComeBack(Base):
    def test_told_ways(self):
        # With the trace 0 the values are u(0), u(1), u(2), and then u(0) - u(1) + u(2).
        self.check(0, (-1, -2, -3), True)
        self.check(0, (-1, -4, -3), True)
        self.check(0, (-1, -4, -2), False)
        self.check(-1, (-1, -2, 0), True)
        self.check(-1, (-1, -1, 1), False)
        # With the trace 1, u(0) + u(3), u(1) + u(4) and u(2) + u(5) are the same number: 2 * (u(0) - u(1) + u(2)).
        self.check(1, (-2, -1, 0), True)
        self.check(1, (-2, -1, -1), True)
        self.check(1, (-1, -1, -1), True)
        self.check(1, (0, -3, -6), True)
        self.check(1, (0, -3, -5), False)
        self.check(1, (0, -1, -1), False)
        self.check(1, (-1, -5, -1), False)

    def test_all_small_ones(self):
        for trace, numbers in itertools.product((-1, 0, 1), itertools.product(range(-4, 2), repeat=3)):
            self.check(trace, numbers, max(values(*numbers, trace, 12)) <= 0)

    def test_wide_numbers(self):
        for trace in (-1, 0, 1):
            for start in itertools.product((-HUGE, -WIDE, -1, 0), repeat=3):
                for number in (0, TINY):
                    numbers = (start[0] + number, start[1], start[2])
                    self.check(trace, numbers, max(values(*numbers, trace, 12)) <= 0)


class OtherTracesBetween(Base):
    # With the trace 6 / 5, the square of the number that the values e come near to is
    # e(0) * e(0) + (5 * e(1) - 3 * e(0)) * (5 * e(1) - 3 * e(0)) / 16.
    def test_a_bound_that_is_never_reached(self):
        self.check_around(Fraction(6, 5), -5, 0, 4, True)
        self.check_around(Fraction(6, 5), -5 + TINY, 0, 4, False)
        self.check_around(Fraction(6, 5), -5 + Fraction(1, HUGE), 0, 4, False)
        self.check_around(Fraction(6, 5), -5 - TINY, 0, 4, True)
        self.check_around(Fraction(-6, 5), -5, 0, 4, True)
        self.check_around(Fraction(-6, 5), -5 + TINY, 0, -4, False)

    def test_a_bound_that_is_reached(self):
        self.check_around(Fraction(6, 5), -5, 3, 5, True)
        self.check_around(Fraction(6, 5), -5, 3, Fraction(-7, 5), True)
        self.check_around(Fraction(6, 5), -5 + TINY, 3, Fraction(-7, 5), False)

    def test_a_bound_that_is_no_fraction(self):
        # With the trace 1 / 2, e(0) = 0 and e(1) = 1 the square is 16 / 15.
        self.check_around(Fraction(1, 2), -1, 0, 1, False)
        self.check_around(Fraction(1, 2), Fraction(-10327, 10000), 0, 1, False)
        self.check_around(Fraction(1, 2), Fraction(-10328, 10000), 0, 1, True)
        root = Fraction(isqrt(16 * 15 * HUGE * HUGE), 15 * HUGE)
        self.check_around(Fraction(1, 2), -root, 0, 1, False)
        self.check_around(Fraction(1, 2), -root - Fraction(1, HUGE), 0, 1, True)

    def test_a_middle_above_0(self):
        self.check_around(Fraction(1, 2), 5, -5, -5, False)
        self.check_around(Fraction(6, 5), 6, -10, -9, False)
        self.check_around(2 - Fraction(1, 10 ** 6), 5, -2000, -1999, False)

    def test_blocked_only_after_many_ways(self):
        # The values come near to 5 only at last: 5 - 1 / 10000 is first beaten behind the 200th of them.
        trace, middle = Fraction(6, 5), Fraction(1, 10 ** 5) - 5
        found = values(middle, middle + 4, middle + 4 * trace, trace, 600)
        late = [number for number, value in enumerate(found) if value > 0]
        self.assertGreater(late[0], 100)
        self.check_around(trace, middle, 0, 4, False)

    def test_wide_numbers(self):
        trace = Fraction(HUGE, HUGE - 1)
        for one, two in [(HUGE, WIDE), (-1, HUGE), (Fraction(1, WIDE), Fraction(-WIDE, HUGE))]:
            square = 4 * (one * one - trace * one * two + two * two) / (4 - trace * trace)
            root = Fraction(isqrt(square.numerator * square.denominator * HUGE ** 4), square.denominator * HUGE ** 2)
            self.check_around(trace, -root, one, two, False)
            self.check_around(trace, -root - Fraction(1, HUGE), one, two, True)


class TracesAboveTwo(Base):
    # With the trace 5 / 2 the values e are x * 2 ** n + y / 2 ** n.
    def check_powers(self, middle, x, y, expected):
        self.check_around(Fraction(5, 2), middle, x + y, 2 * x + Fraction(y) / 2, expected)

    def test_growing_without_end(self):
        self.check_powers(-HUGE, Fraction(1, HUGE), 0, False)
        self.check_powers(-HUGE, Fraction(1, HUGE), 5, False)
        self.check_powers(-HUGE, Fraction(1, HUGE), -5, False)
        self.check_powers(-HUGE, TINY, HUGE, False)

    def test_falling(self):
        self.check_powers(-1, -1, 0, True)
        self.check_powers(1, -1, 0, True)
        self.check_powers(Fraction(9, 10), -1, 0, True)
        self.check_powers(-4, -1, 5, True)
        self.check_powers(3, -1, -2, True)
        self.check_powers(4, -1, -2, False)
        self.check_powers(3, -2, -1, True)

    def test_coming_near_to_the_middle(self):
        self.check_powers(0, 0, -1, True)
        self.check_powers(TINY, 0, -1, False)
        self.check_powers(Fraction(1, HUGE), 0, -HUGE, False)
        self.check_powers(-TINY, 0, -1, True)
        self.check_powers(-5, 0, 5, True)
        self.check_powers(-5 + TINY, 0, 5, False)
        self.check_powers(-HUGE, 0, HUGE, True)

    def test_rising_and_falling(self):
        # The values are -x * 2 ** n - y / 2 ** n: -1 - 64, -2 - 32, -4 - 16, -8 - 8, -16 - 4.
        self.check_powers(16, -1, -64, True)
        self.check_powers(16 + TINY, -1, -64, False)
        self.check_powers(0, -1, -64, True)
        self.check_powers(-5, -1, -64, True)
        # Now -1 - 32, -2 - 16, -4 - 8, -8 - 4: between the steps the values would be greater than -12.
        self.check_powers(12, -1, -32, True)
        self.check_powers(12 + TINY, -1, -32, False)
        self.check_powers(Fraction(113, 10), -1, -32, True)
        self.check_powers(13, -1, -32, False)

    def test_late_tops(self):
        for steps in (10, 100, 200):
            far = 4 ** steps
            self.check_powers(2 * 2 ** steps, -1, -far, True)
            self.check_powers(2 * 2 ** steps + Fraction(1, HUGE ** 3), -1, -far, False)
            self.check_powers(3 * 2 ** steps, -1, -2 * far, True)
            self.check_powers(3 * 2 ** steps + Fraction(1, HUGE ** 3), -1, -2 * far, False)

    def test_irrational_growth(self):
        # With the trace 3 the values e are multiples of every second Fibonacci number, if they start so.
        self.check_around(3, -5, 1, 2, False)
        self.check_around(3, -HUGE, 0, TINY, False)
        self.check_around(3, 1, -2, -1, True)
        self.check_around(3, 1 + TINY, -2, -1, False)
        self.check_around(3, 1, -34, -13, True)
        self.check_around(3, 1 + TINY, -34, -13, False)
        self.check_around(HUGE, 1, 1 - HUGE, -1, True)
        self.check_around(HUGE, 1 + TINY, 1 - HUGE, -1, False)
        self.check_around(HUGE, 1, 1 - HUGE - TINY, -1, False)
        self.check_around(HUGE, 1, 1 - HUGE + TINY, -1, True)


class TracesBelowMinusTwo(Base):
    def test_minus_two(self):
        # The values e are x + y * n, with the other sign at each second one.
        self.check_around(-2, -1, 1, -1, True)
        self.check_around(-2, -1, -1, 1, True)
        self.check_around(-2, -1 + TINY, 1, -1, False)
        self.check_around(-2, -1 + TINY, -1, 1, False)
        self.check_around(-2, -HUGE, 1, -1 + TINY, False)
        self.check_around(-2, -HUGE, 0, TINY, False)
        self.check_around(-2, -HUGE, TINY, 0, False)
        self.check_around(-2, 0, 0, 0, True)

    def test_coming_near_to_the_middle(self):
        self.check_around(Fraction(-5, 2), -4, 4, -2, True)
        self.check_around(Fraction(-5, 2), -4 + TINY, 4, -2, False)
        self.check_around(Fraction(-5, 2), -2, -4, 2, True)
        self.check_around(Fraction(-5, 2), -2 + TINY, -4, 2, False)
        self.check_around(Fraction(-5, 2), 0, -4, 2, False)

    def test_growing_without_end(self):
        self.check_around(Fraction(-5, 2), -HUGE, 2, -4, False)
        self.check_around(Fraction(-5, 2), -HUGE, -TINY, 2 * TINY, False)
        self.check_around(Fraction(-5, 2), -HUGE, 4, -2 + TINY, False)
        self.check_around(-3, -HUGE, 1, 0, False)
        self.check_around(-3, -HUGE, 0, 1, False)
        self.check_around(-HUGE, -HUGE ** 3, 1, -1, False)
        self.check_around(-2 - TINY, -HUGE, 1, -1, False)


if __name__ == "__main__":
    unittest.main()
