"""Points [12] and [13], and the heading raytrain/shapes.py of the interface."""

import copy
import itertools
import unittest
from fractions import Fraction

from raytrain.maps import ray_transfer
from raytrain.regions import map_half_planes
from raytrain.shapes import area, corners, is_bounded, meeting
from tests import oracle
from tests.helper import HUGE, WIDE, exact, is_fraction, pair
from tests.oracle import plane, ray
from tests.samples import ALL_REGIONS, DIRECTIONS, REGIONS, WITH_RAYS, small_regions, small_trains

MANY = small_regions(400, 13, 9)
SQUARE = [(1, 0, 1), (-1, 0, 0), (0, 1, 1), (0, -1, 0)]


def rectangle(width, height):
    """Return the half-planes of the heights from 0 to one number, and the slopes from 0 to another one."""
    return [plane(1, 0, width), plane(-1, 0, 0), plane(0, 1, height), plane(0, -1, 0)]


def bounded(half_planes):
    """Return whether the heights and the slopes are bounded, reckoned without the package."""
    return None not in oracle.bounds(half_planes, 1, 0) + oracle.bounds(half_planes, 0, 1)


class Meetings(unittest.TestCase):
    def test_told_rays(self):
        self.assertEqual(meeting((1, 0, 2), (0, 1, 3)), ((2, 1), (3, 1)))
        self.assertEqual(meeting((0, 1, 3), (1, 0, 2)), ((2, 1), (3, 1)))
        self.assertEqual(meeting((1, 2, 3), (4, 5, 6)), ((-1, 1), (2, 1)))
        self.assertEqual(meeting((2, 3, 1), (1, -1, 1)), ((4, 5), (-1, 5)))
        self.assertEqual(meeting((HUGE, 0, 1), (1, WIDE, 0)), ((1, HUGE), pair(-1, HUGE * WIDE)))

    def test_dependent_directions(self):
        for first, second in [((1, 2, 3), (1, 2, 4)), ((1, 2, 3), (-1, -2, -3)), ((2, -4, 1), (-1, 2, 5)),
                              ((1, 2, 3), (1, 2, 3)), ((0, 1, 1), (0, -3, 1))]:
            self.assertIsNone(meeting(first, second))

    def test_the_ray_is_on_both_lines(self):
        half_planes = [half_plane for found in ALL_REGIONS for half_plane in found]
        for first, second in itertools.product(half_planes, repeat=2):
            found = meeting(first, second)
            if found is None:
                self.assertEqual(first[0] * second[1], first[1] * second[0])
            else:
                self.assertTrue(is_fraction(found[0]) and is_fraction(found[1]))
                self.assertEqual(oracle.value(first, found), first[2])
                self.assertEqual(oracle.value(second, found), second[2])


class Corners(unittest.TestCase):
    def test_told_corners(self):
        self.assertEqual(corners(SQUARE), [ray(0, 0), ray(0, 1), ray(1, 0), ray(1, 1)])
        self.assertEqual(corners([(-1, 0, 0), (0, -1, 0), (1, 1, 1)]), [ray(0, 0), ray(0, 1), ray(1, 0)])
        self.assertEqual(corners([(-1, 0, 3), (0, 1, 2)]), [ray(-3, 2)])
        self.assertEqual(corners([(2, 0, 1), (-3, 0, 1), (0, 1, 0), (0, -5, 2)]),
                         [ray(Fraction(-1, 3), Fraction(-2, 5)), ray(Fraction(-1, 3), 0),
                          ray(Fraction(1, 2), Fraction(-2, 5)), ray(Fraction(1, 2), 0)])

    def test_regions_without_corners(self):
        self.assertEqual(corners([]), [])
        self.assertEqual(corners([(1, 0, 1)]), [])
        self.assertEqual(corners([(1, 0, 1), (-1, 0, 0), (1, 0, 5)]), [])
        for half_planes in REGIONS["line"] + REGIONS["empty"]:
            self.assertEqual(corners(half_planes), [])

    def test_points_and_segments(self):
        for half_planes in REGIONS["point"]:
            self.assertEqual(len(corners(half_planes)), 1)
        for half_planes in REGIONS["segment"]:
            self.assertEqual(len(corners(half_planes)), 2)
        for half_planes in REGIONS["halfLine"]:
            self.assertEqual(len(corners(half_planes)), 1)

    def test_each_once(self):
        self.assertEqual(corners([(-1, 0, 0), (0, -1, 0), (-1, -1, 0), (-2, -1, 0), (-1, 0, 0)]), [ray(0, 0)])
        for half_planes in ALL_REGIONS:
            self.assertEqual(corners(half_planes + half_planes), corners(half_planes))

    def test_a_half_plane_that_only_touches(self):
        self.assertEqual(corners(SQUARE + [(1, 1, 2)]), corners(SQUARE))

    def test_all_samples(self):
        for half_planes in ALL_REGIONS + MANY:
            with self.subTest(half_planes=half_planes):
                found = corners(half_planes)
                self.assertIsInstance(found, list)
                self.assertEqual(found, oracle.vertices(half_planes))

    def test_wide_numbers_in_order(self):
        low, high = Fraction(1, HUGE), Fraction(2, HUGE)
        half_planes = [plane(1, 0, high), plane(-1, 0, -low), plane(0, 1, high), plane(0, -1, -low)]
        self.assertEqual(corners(half_planes), [ray(low, low), ray(low, high), ray(high, low), ray(high, high)])

    def test_the_rays_of_a_bounded_region_are_the_mixtures(self):
        for half_planes in MANY:
            found = corners(half_planes)
            if found and bounded(half_planes):
                for p, q in DIRECTIONS:
                    values = [oracle.value((p, q, 0), corner) for corner in found]
                    self.assertEqual((min(values), max(values)), oracle.bounds(half_planes, p, q))


class Bounded(unittest.TestCase):
    def test_told_regions(self):
        self.assertIs(is_bounded(SQUARE), True)
        self.assertIs(is_bounded([]), False)
        for left_out in range(4):
            self.assertIs(is_bounded(SQUARE[:left_out] + SQUARE[left_out + 1:]), False)
        self.assertIs(is_bounded([(1, 1, 1), (-1, -1, 0), (1, -1, 1)]), False)
        self.assertIs(is_bounded([(1, 1, 1), (-1, -1, 0), (1, -1, 1), (-1, 1, 0)]), True)

    def test_kinds(self):
        for kind, expected in (("line", False), ("halfLine", False), ("segment", True), ("point", True)):
            for half_planes in REGIONS[kind]:
                self.assertIs(is_bounded(half_planes), expected)

    def test_all_samples(self):
        for half_planes in WITH_RAYS + MANY:
            if oracle.has_rays(half_planes):
                with self.subTest(half_planes=half_planes):
                    self.assertIs(is_bounded(half_planes), bounded(half_planes))


class Areas(unittest.TestCase):
    def test_rectangles(self):
        for width in (1, 2, Fraction(2, 3), Fraction(HUGE, WIDE), Fraction(1, HUGE)):
            for height in (1, Fraction(5, 7), Fraction(WIDE, 3)):
                self.assertEqual(area(rectangle(width, height)), pair(width * height))

    def test_told_areas(self):
        self.assertEqual(area([(-1, 0, 0), (0, -1, 0), (1, 1, 1)]), (1, 2))
        self.assertEqual(area([(-1, 0, 0), (0, -1, 0), (2, 3, 5)]), (25, 12))
        self.assertEqual(area([(1, 1, 1), (1, -1, 1), (-1, 1, 1), (-1, -1, 1)]), (2, 1))
        self.assertEqual(area(SQUARE + [(1, 1, 1), (1, 1, 7)]), (1, 2))
        self.assertEqual(area(SQUARE + [(-2, -2, -1)]), (7, 8))

    def test_infinite_areas(self):
        for half_planes in ([], [(1, 0, 1)], SQUARE[:3], SQUARE[1:], [(1, 0, 1), (-1, 0, 0)], [(-1, 0, 0), (0, -1, 0)]):
            self.assertIsNone(area(half_planes))

    def test_other_kinds(self):
        for kind in ("empty", "point", "segment", "halfLine", "line"):
            for half_planes in REGIONS[kind]:
                self.assertEqual(area(half_planes), (0, 1))

    def test_all_samples(self):
        tried = 0
        for half_planes in ALL_REGIONS + MANY + [oracle.boxed(found, 4) for found in MANY]:
            with self.subTest(half_planes=half_planes):
                found = area(half_planes)
                if len(oracle.vertices(half_planes)) < 3 and oracle.has_rays(half_planes) and found is not None:
                    self.assertEqual(found, (0, 1))
                elif oracle.has_rays(half_planes) and bounded(half_planes):
                    tried += 1
                    self.assertEqual(found, pair(oracle.polygon_area(half_planes)))
        self.assertGreater(tried, 100)

    def test_a_line_divides_an_area(self):
        for half_planes in [rectangle(3, 2), [(1, 1, 5), (1, -1, 5), (-3, 1, 5), (-1, -4, 5)]]:
            for p, q in DIRECTIONS:
                if (p, q) != (0, 0):
                    for r in (-9, -1, 0, 1, 2, 3):
                        parts = [area(half_planes + [plane(p, q, r)]), area(half_planes + [plane(-p, -q, -r)])]
                        self.assertEqual(exact(parts[0]) + exact(parts[1]), exact(area(half_planes)))

    def test_a_map_does_not_change_the_area(self):
        for train, half_planes in zip(small_trains(60, 41), MANY + ALL_REGIONS):
            self.assertEqual(area(map_half_planes(ray_transfer(train), half_planes)), area(half_planes))

    def test_a_further_half_plane_never_increases_it(self):
        for half_planes in MANY[:150]:
            for p, q, r in ((1, 2, 1), (-1, 0, 1), (0, -1, 0)):
                before, behind = area(half_planes), area(half_planes + [(p, q, r)])
                if before is not None:
                    self.assertLessEqual(exact(behind), exact(before))


class ListsStay(unittest.TestCase):
    def test_what_is_passed_in_stays_and_what_is_handed_out_is_new(self):
        for half_planes in WITH_RAYS:
            kept = copy.deepcopy(half_planes)
            first, second = corners(half_planes), corners(half_planes)
            is_bounded(half_planes)
            area(half_planes)
            self.assertEqual(half_planes, kept)
            self.assertIsNot(first, second)


if __name__ == "__main__":
    unittest.main()
