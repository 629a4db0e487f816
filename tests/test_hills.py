"""Values that rise and later fall, for point [34]: raytrain.hills."""

import decimal
import random
import unittest
from fractions import Fraction

from raytrain.forever import stays_below
from raytrain.hills import (
    form_of, joined, sign_at, square_of, steps_to_try, told_by_jumps, told_by_steps, told_with_bits,
)
from tests.helper import HUGE, WIDE, exact, pair

TINY = Fraction(1, 10 ** 30)
TRACES = [Fraction(3), Fraction(5, 2), 2 + Fraction(1, 50), 2 + Fraction(1, 10 ** 9), Fraction(HUGE, WIDE)]


def told_around(middle, one, two, trace):
    """Return what the program tells of the values middle + e, by the first two e."""
    numbers = [pair(number) for number in (middle + one, middle + two, middle + trace * two - one, trace)]
    return stays_below(*numbers)


def first_values(one, two, trace, many):
    """Return the first values e."""
    found = [Fraction(one), Fraction(two)]
    while len(found) < many:
        found.append(trace * found[-1] - found[-2])
    return found


def sequence_with_top(trace, top, behind, steps):
    """Return the first two of the values e that reach a top after so many steps, and another value behind it."""
    one, two = top, behind
    for _ in range(steps):
        one, two = trace * one - two, one
    return one, two


def hills():
    """Return tuples (trace, top, e(0), e(1)) of values e that rise to the top, and then fall."""
    chance = random.Random(342)
    found = []
    for part in (1, 2, 3, 7, 50, 1000, 10 ** 6, 10 ** 12, WIDE):
        for steps in (0, 1, 2, 5, 19, 40):
            trace = 2 + Fraction(chance.choice([1, 2, 3]), part)
            top = -Fraction(chance.randint(1, 30), chance.choice([1, 2, 7]))
            behind = (trace - 1) * top + (2 - trace) * top * Fraction(chance.randint(0, 20), 20)
            found.append((trace, top) + sequence_with_top(trace, top, behind, steps))
    return found


class Hills(unittest.TestCase):
    def check(self, trace, middle, one, two, expected):
        with self.subTest(trace=trace, middle=middle, one=one, two=two):
            self.assertIs(told_around(middle, one, two, trace), expected)

    def test_tops_between_steps(self):
        for trace, top, one, two in hills():
            for number in (TINY, Fraction(1, HUGE ** 2)):
                self.check(trace, -top, one, two, True)
                self.check(trace, -top + number, one, two, False)
                self.check(trace, -top - number, one, two, True)

    def test_both_ways_to_tell_agree(self):
        told_ways = set()
        for trace, top, one, two in hills():
            for middle in (-top + TINY, -top - TINY, -top + Fraction(1, HUGE ** 2), -top - Fraction(1, HUGE ** 2)):
                reckoned = first_values(one, two, trace, 45)
                if two <= one or -middle in reckoned or any(one == two for one, two in zip(reckoned, reckoned[1:])):
                    continue
                numbers = [pair(number) for number in (one, two, trace, middle)]
                answer = told_by_jumps(*numbers)
                self.assertIs(answer, told_by_steps(*numbers, 50))
                self.assertIs(answer, middle < -top)
                told_ways.add(answer)
        self.assertEqual(told_ways, {True, False})

    def test_tops_that_come_very_late(self):
        for places in (12, 20, 30):
            trace = 2 + Fraction(1, 10 ** places)
            for part in (Fraction(1), Fraction(3, 2)):
                two = part / 10 ** (places // 2) - 3
                above, below = self.nearest_values(Fraction(-3), two, trace)
                self.check(trace, -above, Fraction(-3), two, True)
                self.check(trace, -below, Fraction(-3), two, False)

    def nearest_values(self, one, two, trace):
        """Return numbers just above and just below the greatest e, reckoned with very many decimal places."""
        with decimal.localcontext() as context:
            context.prec = 250
            a, b, t = [decimal.Decimal(number.numerator) / number.denominator for number in (one, two, trace)]
            factor = (t + (t * t - 4).sqrt()) / 2
            growing = (b - a / factor) / (factor - 1 / factor)
            shrinking = a - growing
            steps = int((shrinking / growing).ln() / factor.ln() / 2)
            self.assertGreater(steps, 10 ** 5)
            found = max(growing * factor ** n + shrinking / factor ** n for n in range(steps - 1, steps + 3))
            return Fraction(found + decimal.Decimal(10) ** -150), Fraction(found - decimal.Decimal(10) ** -150)


def power_in(number, prime):
    """Return how often a prime divides a number."""
    power = 0
    while number % prime == 0:
        number //= prime
        power += 1
    return power


class Bounds(unittest.TestCase):
    def test_the_bounds_hold(self):
        for trace in TRACES:
            by_s = first_values(0, 1, trace, 13)
            by_v = first_values(2, trace, trace, 13)
            for bits in (0, 1, 2, 5, 30, 200):
                unit = 2 ** bits
                least = exact(pair(trace)) * unit // 1
                single = ((unit, least), (unit, least + 1))
                bounds = [((0, 2 * unit), (0, 2 * unit)), single]
                for many in range(2, 13):
                    place = many // 2 if many % 3 else 1
                    bounds.append(joined(bounds[place], bounds[many - place], pair(trace), bits))
                for many, (lower, upper) in enumerate(bounds):
                    self.assertLessEqual(lower[0], by_s[many] * unit)
                    self.assertLessEqual(lower[1], by_v[many] * unit)
                    self.assertGreaterEqual(upper[0], by_s[many] * unit)
                    self.assertGreaterEqual(upper[1], by_v[many] * unit)
                    self.assertTrue(all(isinstance(part, int) for part in lower + upper))
                if bits == 200 and trace < 4:
                    self.assertLess(bounds[12][1][0] - bounds[12][0][0], 2 ** 100)

    def test_signs(self):
        exactly = ((8, 24), (8, 24))
        self.assertEqual(sign_at((3, -1, 1), exactly, 3), 1)
        self.assertEqual(sign_at((3, -1, -1), exactly, 3), -1)
        self.assertEqual(sign_at((3, -1, 0), exactly, 3), 0)
        between = ((8, 24), (10, 27))
        self.assertEqual(sign_at((3, 0, -2), between, 3), 1)
        self.assertEqual(sign_at((3, 0, -3), between, 3), 0)
        self.assertEqual(sign_at((3, 0, -4), between, 3), -1)
        self.assertEqual(sign_at((-3, 0, 4), between, 3), 1)
        self.assertEqual(sign_at((-3, 0, 2), between, 3), -1)
        self.assertEqual(sign_at((0, 1, -2), between, 3), 1)
        self.assertEqual(sign_at((0, 1, -3), between, 3), 0)
        self.assertEqual(sign_at((0, 1, -4), between, 3), -1)
        self.assertEqual(sign_at((0, -1, 4), between, 3), 1)
        self.assertEqual(sign_at((0, -1, 2), between, 3), -1)
        self.assertEqual(sign_at((1, -1, 2), between, 3), 0)
        self.assertEqual(sign_at((1, -1, 3), between, 3), 1)
        self.assertEqual(sign_at((-1, 1, -3), between, 3), -1)
        self.assertEqual(sign_at((-1, 1, 0), between, 3), 1)

    def test_the_form(self):
        for trace in TRACES:
            reckoned = first_values(-5, Fraction(-7, 2), trace, 9)
            by_s, by_v = first_values(0, 1, trace, 9), first_values(2, trace, trace, 9)
            x, y, z = form_of((-5, 1), (-7, 2), pair(trace), (1, 3))
            scales = {(x * s + y * v + z) / (e + Fraction(1, 3)) for s, v, e in zip(by_s, by_v, reckoned)}
            self.assertEqual(len(scales), 1)
            self.assertGreater(scales.pop(), 0)

    def test_few_bits_tell_nothing_wrong(self):
        told = set()
        for trace, top, one, two in hills():
            for middle in (-top + TINY, -top - TINY):
                if two > one and -middle not in first_values(one, two, trace, 45):
                    rise = form_of(pair(two - one), pair(trace * two - one - two), pair(trace), (0, 1))
                    value = form_of(pair(one), pair(two), pair(trace), pair(middle))
                    for bits in (1, 2, 4, 8, 16, 32, 64, 128):
                        found = told_with_bits(rise, value, pair(trace), bits)
                        self.assertIn(found, (None, middle < -top), (trace, one, two, middle, bits))
                        told.add(found)
        self.assertEqual(told, {None, True, False})

    def test_so_many_steps_are_enough(self):
        for trace, top, one, two in hills():
            most = steps_to_try(pair(one), square_of(pair(one), pair(two), pair(trace)), pair(-top))
            self.assertGreater(most, first_values(one, two, trace, 45).index(top) + 2)
            if trace.denominator in (2, 3, 7):
                # From then on, the power of a prime in the denominators grows with each step.
                prime = trace.denominator
                powers = [power_in(number.denominator, prime)
                          for number in first_values(one, two, trace, most + 20)[most:]]
                self.assertEqual(sorted(set(powers)), powers)

    def test_steps_alone_tell_all_of_whole_traces(self):
        chance = random.Random(343)
        for _ in range(2000):
            trace = chance.choice([3, 4, 7, 100, HUGE])
            one = -Fraction(chance.randint(1, 10 ** chance.randint(1, 30)), chance.randint(1, 50))
            two = one + Fraction(chance.randint(1, 10 ** chance.randint(1, 30)), chance.randint(1, 50))
            square = square_of(pair(one), pair(two), pair(trace))
            if square[0] < 0:
                middle = pair(chance.randint(1, 100), chance.randint(1, 100))
                most = steps_to_try(pair(one), square, middle)
                self.assertIsNotNone(told_by_steps(pair(one), pair(two), pair(trace), middle, most))

    def test_too_few_steps_tell_nothing(self):
        for trace, top, one, two in hills():
            steps = first_values(one, two, trace, 45).index(top)
            for most in range(steps):
                self.assertIsNone(told_by_steps(pair(one), pair(two), pair(trace), pair(-top), most))
            self.assertIs(told_by_steps(pair(one), pair(two), pair(trace), pair(-top), steps + 2), True)
            self.assertIs(told_by_steps(pair(one), pair(two), pair(trace), pair(-top + TINY), steps + 2), False)


if __name__ == "__main__":
    unittest.main()
