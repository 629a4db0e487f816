"""Point [2], and the heading raytrain/rationals.py of the interface."""

import math
import unittest
from fractions import Fraction

from raytrain import rationals
from raytrain.rationals import (
    absolute, add, common_divisor, compare, divide, fraction, greatest_of, is_at_most, is_less, least_of,
    multiply, nearest_to_zero, negative, sign, span_between, subtract, whole_numbers,
)
from tests.helper import HUGE, WIDE, exact, is_fraction, pair, small_fractions, wide_fractions

SMALL = small_fractions()
WIDE_ONES = wide_fractions()
PAIRS = [(one, other) for values in (SMALL, WIDE_ONES) for one in values for other in values]


class CommonDivisor(unittest.TestCase):
    def test_small_integers(self):
        for first in range(-12, 13):
            for second in range(-12, 13):
                with self.subTest(first=first, second=second):
                    self.assertEqual(common_divisor(first, second), math.gcd(first, second))

    def test_told_numbers(self):
        self.assertEqual(common_divisor(12, 18), 6)
        self.assertEqual(common_divisor(-12, 18), 6)
        self.assertEqual(common_divisor(12, -18), 6)
        self.assertEqual(common_divisor(-12, -18), 6)
        self.assertEqual(common_divisor(8, 9), 1)

    def test_zeros(self):
        self.assertEqual(common_divisor(0, 0), 0)
        self.assertEqual(common_divisor(0, 5), 5)
        self.assertEqual(common_divisor(-5, 0), 5)

    def test_wide_integers(self):
        self.assertEqual(common_divisor(6 * HUGE, -4 * HUGE), 2 * HUGE)
        self.assertEqual(common_divisor(WIDE, 0), WIDE)
        self.assertEqual(common_divisor(2 ** 200, 6 ** 100), 2 ** 100)


class TheForm(unittest.TestCase):
    def test_the_constants(self):
        self.assertEqual(rationals.ZERO, (0, 1))
        self.assertEqual(rationals.ONE, (1, 1))
        self.assertTrue(is_fraction(rationals.ZERO) and is_fraction(rationals.ONE))

    def test_told_fractions(self):
        self.assertEqual(fraction(6, 4), (3, 2))
        self.assertEqual(fraction(-6, 4), (-3, 2))
        self.assertEqual(fraction(6, -4), (-3, 2))
        self.assertEqual(fraction(-6, -4), (3, 2))
        self.assertEqual(fraction(7), (7, 1))
        self.assertEqual(fraction(-7), (-7, 1))
        self.assertEqual(fraction(3, 3), (1, 1))
        self.assertEqual(fraction(3, -3), (-1, 1))

    def test_zero_has_one_form(self):
        for denominator in (1, -1, 5, -5, HUGE, -HUGE):
            with self.subTest(denominator=denominator):
                self.assertEqual(fraction(0, denominator), (0, 1))
        self.assertEqual(fraction(0), (0, 1))

    def test_small_integers(self):
        for numerator in range(-12, 13):
            for denominator in [k for k in range(-12, 13) if k != 0]:
                with self.subTest(numerator=numerator, denominator=denominator):
                    made = fraction(numerator, denominator)
                    self.assertTrue(is_fraction(made))
                    self.assertEqual(made, pair(numerator, denominator))

    def test_wide_integers(self):
        self.assertEqual(fraction(6 * HUGE, 4 * HUGE), (3, 2))
        self.assertEqual(fraction(WIDE, -HUGE), pair(-WIDE, HUGE))
        self.assertEqual(fraction(2 * WIDE * HUGE, -4 * WIDE), pair(-HUGE, 2))

    def test_the_denominator_can_be_named(self):
        self.assertEqual(fraction(numerator=2, denominator=-6), (-1, 3))


class Reckoning(unittest.TestCase):
    def check(self, result, expected):
        self.assertTrue(is_fraction(result))
        self.assertEqual(result, pair(expected))

    def test_two_fractions(self):
        for first, second in PAIRS:
            with self.subTest(first=first, second=second):
                one, other = exact(first), exact(second)
                self.check(add(first, second), one + other)
                self.check(subtract(first, second), one - other)
                self.check(multiply(first, second), one * other)
                if other != 0:
                    self.check(divide(first, second), one / other)

    def test_told_results(self):
        self.assertEqual(add((1, 2), (1, 3)), (5, 6))
        self.assertEqual(add((1, 2), (-1, 2)), (0, 1))
        self.assertEqual(add((1, 6), (1, 3)), (1, 2))
        self.assertEqual(subtract((1, 3), (1, 2)), (-1, 6))
        self.assertEqual(multiply((-2, 3), (3, 2)), (-1, 1))
        self.assertEqual(divide((1, 2), (-3, 4)), (-2, 3))
        self.assertEqual(divide((0, 1), (-3, 4)), (0, 1))

    def test_one_fraction(self):
        for value in SMALL + WIDE_ONES:
            with self.subTest(value=value):
                self.check(negative(value), -exact(value))
                self.check(absolute(value), abs(exact(value)))

    def test_told_signs(self):
        self.assertEqual(negative((0, 1)), (0, 1))
        self.assertEqual(negative((-2, 3)), (2, 3))
        self.assertEqual(absolute((-2, 3)), (2, 3))
        self.assertEqual(absolute((2, 3)), (2, 3))
        self.assertEqual(absolute((0, 1)), (0, 1))


class Order(unittest.TestCase):
    def test_two_fractions(self):
        for first, second in PAIRS:
            with self.subTest(first=first, second=second):
                one, other = exact(first), exact(second)
                self.assertEqual(compare(first, second), (one > other) - (one < other))
                self.assertIs(is_less(first, second), one < other)
                self.assertIs(is_at_most(first, second), one <= other)

    def test_told_results(self):
        self.assertEqual(compare((1, 3), (1, 2)), -1)
        self.assertEqual(compare((1, 2), (1, 2)), 0)
        self.assertEqual(compare((-1, 3), (-1, 2)), 1)
        self.assertIs(is_less((1, 2), (1, 2)), False)
        self.assertIs(is_at_most((1, 2), (1, 2)), True)

    def test_wide_fractions_that_are_close_together(self):
        just_above = (HUGE + 1, HUGE)
        self.assertEqual(compare(just_above, (1, 1)), 1)
        self.assertEqual(compare((-HUGE - 1, HUGE), (-1, 1)), -1)
        self.assertEqual(compare((HUGE, HUGE + 1), just_above), -1)

    def test_signs(self):
        for value in SMALL + WIDE_ONES:
            with self.subTest(value=value):
                self.assertEqual(sign(value), (exact(value) > 0) - (exact(value) < 0))
        self.assertEqual([sign((-3, 2)), sign((0, 1)), sign((HUGE, WIDE))], [-1, 0, 1])


class LeastAndGreatest(unittest.TestCase):
    def test_lists_without_values(self):
        for values in ([], [None], [None, None, None]):
            with self.subTest(values=values):
                self.assertIsNone(least_of(values))
                self.assertIsNone(greatest_of(values))

    def test_one_value(self):
        for value in ((0, 1), (-2, 3), (HUGE, 1)):
            for values in ([value], [None, value], [value, None], [None, value, None]):
                with self.subTest(values=values):
                    self.assertEqual(least_of(values), value)
                    self.assertEqual(greatest_of(values), value)

    def test_several_values(self):
        values = [(1, 2), None, (-1, 3), (2, 3), None, (-2, 5)]
        self.assertEqual(least_of(values), (-2, 5))
        self.assertEqual(greatest_of(values), (2, 3))

    def test_values_on_one_side_of_zero(self):
        self.assertEqual(least_of([(3, 1), (1, 2), (2, 1)]), (1, 2))
        self.assertEqual(greatest_of([(-3, 1), (-1, 2), None, (-2, 1)]), (-1, 2))

    def test_zero_is_a_value(self):
        self.assertEqual(least_of([(0, 1), (1, 2)]), (0, 1))
        self.assertEqual(greatest_of([(0, 1), (-1, 2)]), (0, 1))
        self.assertEqual(least_of([None, (0, 1), None]), (0, 1))

    def test_equal_values(self):
        self.assertEqual(least_of([(1, 2), (1, 2)]), (1, 2))
        self.assertEqual(greatest_of([(1, 2), (1, 2)]), (1, 2))

    def test_each_place_of_the_best_one(self):
        for place in range(4):
            values = [(1, 1), (2, 1), (3, 1)]
            low, high = list(values), list(values)
            low.insert(place, (-1, HUGE))
            high.insert(place, (HUGE, WIDE))
            with self.subTest(place=place):
                self.assertEqual(least_of(low), (-1, HUGE))
                self.assertEqual(greatest_of(high), (HUGE, WIDE))

    def test_all_small_fractions(self):
        self.assertEqual(least_of(SMALL), (-6, 1))
        self.assertEqual(greatest_of(SMALL), (6, 1))
        self.assertEqual(least_of(SMALL[::-1]), (-6, 1))
        self.assertEqual(greatest_of(SMALL[::-1]), (6, 1))

    def test_the_list_stays_as_it_was(self):
        values = [None, (3, 1), (1, 2), None, (2, 1)]
        kept = list(values)
        least_of(values)
        greatest_of(values)
        self.assertEqual(values, kept)


class NearestToZero(unittest.TestCase):
    def test_no_bounds(self):
        self.assertEqual(nearest_to_zero(None, None), (0, 1))

    def test_one_bound(self):
        self.assertEqual(nearest_to_zero((2, 3), None), (2, 3))
        self.assertEqual(nearest_to_zero((-2, 3), None), (0, 1))
        self.assertEqual(nearest_to_zero((0, 1), None), (0, 1))
        self.assertEqual(nearest_to_zero(None, (-2, 3)), (-2, 3))
        self.assertEqual(nearest_to_zero(None, (2, 3)), (0, 1))
        self.assertEqual(nearest_to_zero(None, (0, 1)), (0, 1))

    def test_both_bounds_on_one_side(self):
        self.assertEqual(nearest_to_zero((1, 3), (1, 2)), (1, 3))
        self.assertEqual(nearest_to_zero((-1, 2), (-1, 3)), (-1, 3))
        self.assertEqual(nearest_to_zero((1, 2), (1, 2)), (1, 2))
        self.assertEqual(nearest_to_zero((-1, 2), (-1, 2)), (-1, 2))

    def test_bounds_around_zero(self):
        self.assertEqual(nearest_to_zero((-1, 2), (1, 3)), (0, 1))
        self.assertEqual(nearest_to_zero((0, 1), (1, 3)), (0, 1))
        self.assertEqual(nearest_to_zero((-1, 3), (0, 1)), (0, 1))
        self.assertEqual(nearest_to_zero((0, 1), (0, 1)), (0, 1))

    def test_wide_bounds(self):
        self.assertEqual(nearest_to_zero((1, HUGE), (HUGE, 1)), (1, HUGE))
        self.assertEqual(nearest_to_zero((-HUGE, 1), (-1, HUGE)), (-1, HUGE))
        self.assertEqual(nearest_to_zero((-1, HUGE), (1, HUGE)), (0, 1))

    def test_no_small_fraction_between_is_nearer(self):
        for lower, upper in [(one, other) for one, other in PAIRS if exact(one) <= exact(other)]:
            with self.subTest(lower=lower, upper=upper):
                nearest = nearest_to_zero(lower, upper)
                self.assertTrue(is_fraction(nearest))
                low, high = exact(lower), exact(upper)
                self.assertTrue(low <= exact(nearest) <= high)
                tried = [low, high] + ([Fraction(0)] if low <= 0 <= high else [])
                self.assertEqual(abs(exact(nearest)), min(abs(number) for number in tried))


class Helpers(unittest.TestCase):
    def test_span_between(self):
        self.assertEqual(span_between([], []), (None, None))
        self.assertEqual(span_between([(1, 2), (1, 3)], []), ((1, 2), None))
        self.assertEqual(span_between([], [(1, 2), (1, 3)]), (None, (1, 3)))
        self.assertEqual(span_between([(1, 3)], [(1, 2)]), ((1, 3), (1, 2)))
        self.assertEqual(span_between([(1, 2)], [(1, 2)]), ((1, 2), (1, 2)))
        self.assertIsNone(span_between([(1, 2)], [(1, 3)]))
        self.assertIsNone(span_between([(-5, 1), (0, 1)], [(7, 1), (-1, HUGE)]))

    def test_whole_numbers(self):
        self.assertEqual(whole_numbers([]), [])
        self.assertEqual(whole_numbers([(2, 1), (-3, 1)]), [2, -3])
        for values in [[(1, 2), (-1, 3)], [(0, 1), (5, 7)], wide_fractions()]:
            found = whole_numbers(values)
            ratios = {Fraction(number) / exact(value) for number, value in zip(found, values) if value[0] != 0}
            self.assertEqual(len(ratios), 1)
            self.assertGreater(ratios.pop(), 0)
            self.assertEqual([number == 0 for number in found], [value[0] == 0 for value in values])


if __name__ == "__main__":
    unittest.main()
