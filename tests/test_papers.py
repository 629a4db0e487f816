"""Points [14] to [17], and the heading raytrain/papers.py of the interface."""

import copy
import itertools
import math
import unittest
from fractions import Fraction

from raytrain.errors import EmptyRegion
from raytrain.papers import (
    emptiness_certificate, implication_certificate, is_implied, sum_of, verify_emptiness, verify_implication,
)
from tests import oracle
from tests.helper import HUGE, WIDE, exact, is_fraction, pair
from tests.oracle import plane
from tests.samples import ALL_REGIONS, DIRECTIONS, REGIONS, WITH_RAYS, small_regions

MANY = small_regions(500, 17)
GOALS = [plane(p, q, r) for p, q in DIRECTIONS if (p, q) != (0, 0) for r in (-4, -1, 0, 2, 6)]
TRIANGLE = [(-1, 0, 0), (0, -1, 0), (1, 1, 1)]
NO_TRIANGLE = [(-1, 0, 0), (0, -1, 0), (2, 3, -1)]


def sum_by_hand(half_planes, certificate):
    """Return the sum of a certificate as Fractions."""
    return tuple(sum((exact(many) * half_planes[index][place] for index, many in certificate), Fraction(0))
                 for place in range(3))


def shows_emptiness(half_planes, certificate):
    """Return whether a well-formed certificate shows that there are no rays."""
    p, q, r = sum_by_hand(half_planes, certificate)
    return (p, q) == (0, 0) and r < 0


def whole(numbers):
    """Return the integers without a common divisor that are in the ratio of Fractions above 0, as fractions."""
    scale = math.lcm(*[number.denominator for number in numbers])
    integers = [int(number * scale) for number in numbers]
    return [pair(number // math.gcd(*integers)) for number in integers]


def first_emptiness(half_planes):
    """Return the first certificate of emptiness, by trying the pairs and the threes in order."""
    for one, two in itertools.combinations(range(len(half_planes)), 2):
        (p, q, r), (u, v, w) = half_planes[one], half_planes[two]
        if p * v == q * u and p * u + q * v < 0:
            many = Fraction(-u, p) if p else Fraction(-v, q)
            if many * r + w < 0:
                return list(zip((one, two), whole([many, Fraction(1)])))
    for three in itertools.combinations(range(len(half_planes)), 3):
        (p, q, r), (u, v, w), (x, y, z) = [half_planes[index] for index in three]
        base = p * v - q * u
        if base != 0:
            first, second = Fraction(-x * v + y * u, base), Fraction(-p * y + q * x, base)
            if first > 0 and second > 0 and first * r + second * w + z < 0:
                return list(zip(three, whole([first, second, Fraction(1)])))
    return None


def first_implication(half_planes, goal):
    """Return the first certificate of implication, by trying the single ones and the pairs in order."""
    x, y, z = goal
    for index, (p, q, r) in enumerate(half_planes):
        if p * y == q * x and p * x + q * y > 0:
            many = Fraction(x, p) if p else Fraction(y, q)
            if many * r <= z:
                return [(index, pair(many))]
    for one, two in itertools.combinations(range(len(half_planes)), 2):
        (p, q, r), (u, v, w) = half_planes[one], half_planes[two]
        base = p * v - q * u
        if base != 0:
            first, second = Fraction(x * v - y * u, base), Fraction(p * y - q * x, base)
            if first > 0 and second > 0 and first * r + second * w <= z:
                return [(one, pair(first)), (two, pair(second))]
    return None


class Sums(unittest.TestCase):
    def test_told_sums(self):
        self.assertEqual(sum_of(TRIANGLE, []), ((0, 1), (0, 1), (0, 1)))
        self.assertEqual(sum_of(TRIANGLE, [(0, (1, 2))]), ((-1, 2), (0, 1), (0, 1)))
        self.assertEqual(sum_of(TRIANGLE, [(0, (1, 2)), (2, (2, 3))]), ((1, 6), (2, 3), (2, 3)))
        self.assertEqual(sum_of([(HUGE, 1, WIDE), (1, 0, 0)], [(0, (1, WIDE)), (1, (HUGE, 1))]),
                         (pair(Fraction(HUGE, WIDE) + HUGE), (1, WIDE), (1, 1)))

    def test_all_samples(self):
        for half_planes in ALL_REGIONS:
            certificate = [(index, pair(2 * index + 1, 3)) for index in range(len(half_planes))]
            found = sum_of(half_planes, certificate)
            self.assertIsInstance(found, tuple)
            self.assertTrue(all(is_fraction(number) for number in found))
            self.assertEqual(tuple(exact(number) for number in found), sum_by_hand(half_planes, certificate))


class Emptiness(unittest.TestCase):
    def test_told_certificates(self):
        self.assertEqual(emptiness_certificate([(1, 0, 0), (-1, 0, -1)]), [(0, (1, 1)), (1, (1, 1))])
        self.assertEqual(emptiness_certificate([(0, 1, 5), (2, 0, 1), (-3, 0, -2)]), [(1, (3, 1)), (2, (2, 1))])
        self.assertEqual(emptiness_certificate([(4, 0, 1), (-6, 0, -5)]), [(0, (3, 1)), (1, (2, 1))])
        self.assertEqual(emptiness_certificate(NO_TRIANGLE), [(0, (2, 1)), (1, (3, 1)), (2, (1, 1))])
        self.assertEqual(emptiness_certificate([(2, 3, -1), (0, -1, 0), (-1, 0, 0)]),
                         [(0, (1, 1)), (1, (3, 1)), (2, (2, 1))])

    def test_a_common_divisor_is_taken_out(self):
        self.assertEqual(emptiness_certificate([(-2, 0, -1), (0, -2, -1), (2, 2, 1)]),
                         [(0, (1, 1)), (1, (1, 1)), (2, (1, 1))])
        self.assertEqual(emptiness_certificate([(-3, 0, -2), (0, -3, -2), (1, 1, 1)]),
                         [(0, (1, 1)), (1, (1, 1)), (2, (3, 1))])

    def test_a_pair_goes_ahead_of_all_threes(self):
        half_planes = NO_TRIANGLE + [(0, 1, -1)]
        self.assertEqual(emptiness_certificate(half_planes), [(1, (1, 1)), (3, (1, 1))])

    def test_the_first_pair_and_the_first_three(self):
        self.assertEqual(emptiness_certificate([(0, 1, 0), (1, 0, 0), (-1, 0, -1), (0, -1, -1)]),
                         [(0, (1, 1)), (3, (1, 1))])
        self.assertEqual(emptiness_certificate([(1, 0, 0), (1, 0, -1), (-1, 0, -3), (-1, 0, -2)]),
                         [(0, (1, 1)), (2, (1, 1))])
        self.assertEqual(emptiness_certificate([(-1, 0, 9), (0, -1, 0), (1, 1, -1), (-1, 0, 0), (-1, 0, -5)]),
                         [(1, (1, 1)), (2, (1, 1)), (3, (1, 1))])

    def test_regions_with_rays(self):
        for half_planes in WITH_RAYS:
            self.assertIsNone(emptiness_certificate(half_planes))

    def test_regions_that_only_touch(self):
        self.assertIsNone(emptiness_certificate([(1, 0, 0), (-1, 0, 0)]))
        self.assertIsNone(emptiness_certificate([(-1, 0, 0), (0, -1, 0), (1, 1, 0)]))

    def test_all_samples(self):
        seen = set()
        for half_planes in REGIONS["empty"] + MANY:
            with self.subTest(half_planes=half_planes):
                found = emptiness_certificate(half_planes)
                self.assertEqual(found, first_emptiness(half_planes))
                self.assertIs(found is None, oracle.has_rays(half_planes))
                if found is not None:
                    seen.add(len(found))
                    self.assertIsInstance(found, list)
                    self.assertIs(verify_emptiness(half_planes, found), True)
        self.assertEqual(seen, {2, 3})

    def test_wide_numbers(self):
        half_planes = [(-HUGE, 0, 0 - WIDE), (0, -WIDE, -HUGE), (1, 1, 0)]
        self.assertEqual(emptiness_certificate(half_planes), first_emptiness(half_planes))
        self.assertEqual(emptiness_certificate([(HUGE, 0, 1), (-WIDE, 0, -1)]),
                         [(0, pair(WIDE)), (1, pair(HUGE))])


class VerifiedEmptiness(unittest.TestCase):
    def check(self, certificate, expected, half_planes=None):
        with self.subTest(certificate=certificate):
            self.assertIs(verify_emptiness(half_planes or NO_TRIANGLE, certificate), expected)

    def test_multiples_of_the_certificate(self):
        for many in (Fraction(1), Fraction(5), Fraction(2, 7), Fraction(1, HUGE), Fraction(HUGE, WIDE)):
            self.check([(0, pair(2 * many)), (1, pair(3 * many)), (2, pair(many))], True)

    def test_more_than_three_half_planes(self):
        half_planes = NO_TRIANGLE + [(1, 0, 0), (-1, 0, 0), (0, 1, 9)]
        self.check([(0, (2, 1)), (1, (3, 1)), (2, (1, 1)), (3, (1, 2)), (4, (1, 2))], True, half_planes)
        self.check([(0, (2, 1)), (1, (4, 1)), (2, (1, 1)), (3, (1, 2)), (4, (1, 2)), (5, (1, 1))], False, half_planes)

    def test_no_half_planes_named(self):
        self.check([], False)
        self.assertIs(verify_emptiness([], []), False)

    def test_indexes_that_do_not_ascend(self):
        self.check([(1, (3, 1)), (0, (2, 1)), (2, (1, 1))], False)
        self.check([(0, (2, 1)), (2, (1, 1)), (1, (3, 1))], False)
        self.check([(2, (1, 1)), (1, (3, 1)), (0, (2, 1))], False)

    def test_an_index_twice(self):
        self.check([(0, (1, 1)), (0, (1, 1)), (1, (3, 1)), (2, (1, 1))], False)
        self.check([(0, (2, 1)), (1, (3, 1)), (2, (1, 2)), (2, (1, 2))], False)

    def test_indexes_that_do_not_exist(self):
        self.check([(0, (2, 1)), (1, (3, 1)), (3, (1, 1))], False)
        self.check([(-1, (1, 1)), (0, (2, 1)), (1, (3, 1))], False)
        self.check([(-3, (2, 1)), (-2, (3, 1)), (-1, (1, 1))], False)
        self.check([(-3, (2, 1)), (1, (3, 1)), (2, (1, 1))], False)
        self.check([(0, (2, 1)), (1, (3, 1)), (HUGE, (1, 1))], False)

    def test_multipliers_of_0_and_below(self):
        half_planes = [(1, 0, 0), (-1, 0, -1), (0, 1, 0), (1, 0, 0)]
        self.check([(0, (1, 1)), (1, (1, 1))], True, half_planes)
        self.check([(0, (1, 1)), (1, (1, 1)), (2, (0, 1))], False, half_planes)
        self.check([(0, (2, 1)), (1, (1, 1)), (3, (-1, 1))], False, half_planes)
        self.check([(0, (-1, 1)), (1, (-1, 1))], False, [(1, 0, 0), (-1, 0, 1)])
        self.check([(0, (0, 1)), (1, (0, 1))], False, half_planes)

    def test_sums_that_are_off(self):
        self.check([(0, (2, 1)), (1, (3, 1)), (2, (HUGE + 1, HUGE))], False)
        self.check([(0, (2 * HUGE + 1, HUGE)), (1, (3, 1)), (2, (1, 1))], False)
        self.check([(0, (2, 1)), (1, (3 * HUGE + 1, HUGE)), (2, (1, 1))], False)
        self.check([(1, (3, 1)), (2, (1, 1))], False)
        self.check([(0, (2, 1)), (2, (1, 1))], False)

    def test_a_third_number_that_is_not_negative(self):
        certificate = [(0, (2, 1)), (1, (3, 1)), (2, (1, 1))]
        self.check(certificate, False, [(-1, 0, 0), (0, -1, 0), (2, 3, 0)])
        self.check(certificate, False, [(-1, 0, 0), (0, -1, 0), (2, 3, 1)])
        self.check(certificate, True, [(-1, 0, 1), (0, -1, 0), (2, 3, -3)])
        self.check(certificate, False, [(-1, 0, 1), (0, -1, 0), (2, 3, -2)])

    def test_small_certificates_by_hand(self):
        for half_planes in MANY[:40] + REGIONS["empty"][:6]:
            for count in (1, 2, 3):
                for indexes in itertools.combinations(range(len(half_planes)), count):
                    for numbers in itertools.product((1, 2), repeat=count):
                        certificate = [(index, pair(number)) for index, number in zip(indexes, numbers)]
                        self.assertIs(verify_emptiness(half_planes, certificate),
                                      shows_emptiness(half_planes, certificate))


class Implication(unittest.TestCase):
    def test_told_certificates(self):
        self.assertEqual(implication_certificate(TRIANGLE, (1, 0, 1)), [(1, (1, 1)), (2, (1, 1))])
        self.assertEqual(implication_certificate(TRIANGLE, (2, 3, 3)), [(0, (1, 1)), (2, (3, 1))])
        self.assertEqual(implication_certificate(TRIANGLE, (2, 2, 3)), [(2, (2, 1))])
        self.assertEqual(implication_certificate([(2, 4, 1)], (1, 2, 1)), [(0, (1, 2))])
        self.assertEqual(implication_certificate([(2, 0, 1), (0, 3, 1)], (1, 1, 1)), [(0, (1, 2)), (1, (1, 3))])

    def test_not_implied(self):
        for goal in ((1, 0, 0), (-1, 0, -1), (1, 1, 0), (-1, -1, -1), (2, 2, 1)):
            self.assertIsNone(implication_certificate(TRIANGLE, goal))
        self.assertIsNone(implication_certificate([], (1, 0, 5)))
        self.assertIsNone(implication_certificate([(1, 0, 0)], (0, 1, 9)))
        self.assertIsNone(implication_certificate([(1, 0, 0)], (-1, 0, 9)))

    def test_a_single_one_goes_ahead_of_all_pairs(self):
        self.assertEqual(implication_certificate(TRIANGLE + [(1, 0, 0)], (1, 0, 1)), [(3, (1, 1))])

    def test_the_first_ones(self):
        self.assertEqual(implication_certificate([(1, 0, 5), (1, 0, 1), (2, 0, 1)], (1, 0, 2)), [(1, (1, 1))])
        self.assertEqual(implication_certificate([(0, 1, 9), (1, 0, 1), (0, 1, 1), (0, 1, 0)], (1, 1, 2)),
                         [(1, (1, 1)), (2, (1, 1))])
        self.assertEqual(implication_certificate([(1, 0, 1), (0, 1, 5), (1, 1, 9), (0, 1, 1)], (1, 1, 2)),
                         [(0, (1, 1)), (3, (1, 1))])

    def test_regions_without_rays(self):
        for half_planes in REGIONS["empty"]:
            for goal in GOALS[::7] + half_planes:
                with self.assertRaises(EmptyRegion):
                    implication_certificate(half_planes, goal)

    def test_the_half_planes_themselves(self):
        for half_planes in WITH_RAYS:
            for half_plane in half_planes:
                found = implication_certificate(half_planes, half_plane)
                self.assertEqual(found, first_implication(half_planes, half_plane))
                self.assertEqual(len(found), 1)

    def test_all_samples(self):
        seen = set()
        for half_planes in WITH_RAYS + MANY:
            if not oracle.has_rays(half_planes):
                continue
            for goal in GOALS[::2]:
                found = implication_certificate(half_planes, goal)
                self.assertEqual(found, first_implication(half_planes, goal))
                self.assertIs(found is not None, oracle.implied(half_planes, goal))
                if found is not None:
                    seen.add(len(found))
                    self.assertIsInstance(found, list)
                    self.assertIs(verify_implication(half_planes, goal, found), True)
        self.assertEqual(seen, {1, 2})

    def test_wide_numbers(self):
        found = implication_certificate([(HUGE, 0, WIDE), (0, WIDE, HUGE)], (1, 1, HUGE))
        self.assertEqual(found, [(0, (1, HUGE)), (1, (1, WIDE))])


class VerifiedImplication(unittest.TestCase):
    def check(self, certificate, expected, goal=(1, 0, 1), half_planes=None):
        with self.subTest(certificate=certificate, goal=goal):
            self.assertIs(verify_implication(half_planes or TRIANGLE, goal, certificate), expected)

    def test_the_third_number(self):
        certificate = [(1, (1, 1)), (2, (1, 1))]
        self.check(certificate, True)
        self.check(certificate, True, (1, 0, 2))
        self.check(certificate, False, (1, 0, 0))
        self.check([(2, (1, 2))], False, (1, 1, 0), [(0, 1, 0), (1, 0, 0), (2, 2, 1)])
        self.check([(2, (1, 2))], True, (1, 1, 1), [(0, 1, 0), (1, 0, 0), (2, 2, 1)])

    def test_a_factor_off(self):
        self.check([(1, (2, 1)), (2, (2, 1))], False)
        self.check([(1, (1, 2)), (2, (1, 2))], False)
        self.check([(0, (1, 2))], False, (-1, 0, 0))
        self.check([(0, (2, 1))], False, (-1, 0, 0))
        self.check([(0, (1, 1))], True, (-1, 0, 0))

    def test_other_directions(self):
        self.check([(2, (1, 1))], False)
        self.check([(1, (1, 1))], False)
        self.check([(0, (1, 1)), (2, (1, 1))], False)
        self.check([(0, (1, 1)), (2, (1, 1))], True, (0, 1, 1))

    def test_more_half_planes_than_needed(self):
        half_planes = TRIANGLE + [(1, 0, 0), (-1, 0, 3)]
        self.check([(1, (1, 1)), (2, (1, 1)), (3, (2, 1)), (4, (2, 1))], False, (1, 0, 6), half_planes)
        self.check([(1, (1, 1)), (2, (1, 1)), (3, (2, 1)), (4, (2, 1))], True, (1, 0, 7), half_planes)

    def test_no_half_planes_named(self):
        self.check([], False)
        self.assertIs(verify_implication([], (1, 0, 1), []), False)

    def test_indexes_that_do_not_ascend_or_exist(self):
        self.check([(2, (1, 1)), (1, (1, 1))], False)
        self.check([(1, (1, 1)), (2, (1, 2)), (2, (1, 2))], False)
        self.check([(1, (1, 1)), (3, (1, 1))], False)
        self.check([(-2, (1, 1)), (-1, (1, 1))], False)
        self.check([(-1, (1, 1)), (1, (1, 1))], False)
        self.check([(-2, (1, 1)), (2, (1, 1))], False)

    def test_multipliers_of_0_and_below(self):
        self.check([(0, (0, 1)), (1, (1, 1)), (2, (1, 1))], False)
        self.check([(0, (-1, 1))], False)
        self.check([(0, (-1, 1)), (2, (1, 1))], False, (2, 1, 9))

    def test_a_sum_that_shows_emptiness_is_not_one_of_implication(self):
        self.check([(0, (1, 1)), (1, (1, 1))], False, (0, 1, 5), [(1, 0, 0), (-1, 0, -1)])


class Implied(unittest.TestCase):
    def test_told_half_planes(self):
        self.assertIs(is_implied(TRIANGLE, (1, 0, 1)), True)
        self.assertIs(is_implied(TRIANGLE, (1, 0, 0)), False)
        self.assertIs(is_implied(TRIANGLE, (HUGE, 0, HUGE - 1)), False)
        self.assertIs(is_implied(TRIANGLE, (-1, -1, 0)), True)
        self.assertIs(is_implied(TRIANGLE, (-1, -1, -1)), False)

    def test_no_half_planes(self):
        for goal in GOALS:
            self.assertIs(is_implied([], goal), False)

    def test_no_rays(self):
        for half_planes in REGIONS["empty"]:
            for goal in GOALS:
                self.assertIs(is_implied(half_planes, goal), True)

    def test_all_samples(self):
        for half_planes in WITH_RAYS + MANY:
            for goal in GOALS[::3]:
                self.assertIs(is_implied(half_planes, goal), oracle.implied(half_planes, goal))


class ListsStay(unittest.TestCase):
    def test_what_is_passed_in_stays_and_what_is_handed_out_is_new(self):
        for half_planes in (TRIANGLE, NO_TRIANGLE):
            kept = copy.deepcopy(half_planes)
            certificate = emptiness_certificate(half_planes) or implication_certificate(half_planes, (1, 0, 1))
            told = copy.deepcopy(certificate)
            sum_of(half_planes, certificate)
            verify_emptiness(half_planes, certificate)
            verify_implication(half_planes, (1, 0, 1), certificate)
            is_implied(half_planes, (1, 0, 1))
            self.assertEqual(half_planes, kept)
            self.assertEqual(certificate, told)
            again = emptiness_certificate(half_planes) or implication_certificate(half_planes, (1, 0, 1))
            self.assertIsNot(again, certificate)


if __name__ == "__main__":
    unittest.main()
