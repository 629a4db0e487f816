"""Points [7] to [11], and the heading raytrain/regions.py of the interface."""

import copy
import math
import unittest
from fractions import Fraction

from raytrain.errors import NoDirection
from raytrain.maps import apply_map, ray_transfer
from raytrain.rays import exit_ray, trace_ray
from raytrain.regions import (
    contains_ray, determinant, direction_range, half_planes_of, infimum, is_empty, line_of, make_half_plane,
    map_half_planes, product, region_kind, region_of, sample_ray, supremum,
    value_at,
)
from tests import oracle
from tests.helper import HUGE, WIDE, exact, is_fraction, pair, small_fractions
from tests.oracle import plane, ray
from tests.samples import ALL_REGIONS, DIRECTIONS, REGIONS, WITH_RAYS, small_regions, small_trains

GRID = [ray(Fraction(height, 2), Fraction(slope, 2)) for height in range(-6, 7) for slope in range(-6, 7)]
MANY = small_regions(400, 11)


class MakeHalfPlane(unittest.TestCase):
    def test_told_half_planes(self):
        self.assertEqual(make_half_plane((1, 2), (1, 3), (1, 4)), (6, 4, 3))
        self.assertEqual(make_half_plane((4, 1), (-6, 1), (2, 1)), (2, -3, 1))
        self.assertEqual(make_half_plane((4, 1), (-6, 1), (0, 1)), (2, -3, 0))
        self.assertEqual(make_half_plane((4, 1), (-6, 1), (3, 1)), (4, -6, 3))
        self.assertEqual(make_half_plane((0, 1), (-2, 3), (-2, 3)), (0, -1, -1))
        self.assertEqual(make_half_plane((-5, 7), (0, 1), (0, 1)), (-1, 0, 0))
        self.assertEqual(make_half_plane((1, 6), (1, 10), (1, 15)), (5, 3, 2))
        self.assertEqual(make_half_plane((HUGE, WIDE), (0, 1), (-1, 3)), (3 * HUGE, 0, -WIDE))

    def test_no_direction(self):
        for r in ((0, 1), (1, 1), (-1, 2), (HUGE, WIDE)):
            with self.subTest(r=r), self.assertRaises(NoDirection):
                make_half_plane((0, 1), (0, 1), r)

    def test_integers_without_a_common_divisor_that_contain_the_same_rays(self):
        numbers = small_fractions()[::3] + [pair(HUGE, WIDE)]
        for p in numbers:
            for q in numbers:
                for r in numbers[::2]:
                    if (p, q) == ((0, 1), (0, 1)):
                        continue
                    found = make_half_plane(p, q, r)
                    self.assertIsInstance(found, tuple)
                    self.assertEqual([type(number) for number in found], [int, int, int])
                    self.assertEqual(math.gcd(*found), 1)
                    factor = Fraction(found[0]) / exact(p) if exact(p) else Fraction(found[1]) / exact(q)
                    self.assertGreater(factor, 0)
                    self.assertEqual([exact(number) * factor for number in (p, q, r)], list(found))


class HalfPlanesOfTrains(unittest.TestCase):
    def test_a_told_train(self):
        train = [
            ("stop", (-1, 1), (1, 2)), ("gap", (2, 1)), ("stop", None, (3, 1)), ("lens", (1, 1), (1, 1)),
            ("prism", (1, 3)), ("gap", (1, 1)), ("stop", (0, 1), None), ("stop", None, None), ("afocal", (-2, 1)),
            ("stop", (1, 1), (1, 1)),
        ]
        # The height behind the second gap is slope + 4/3.
        self.assertEqual(half_planes_of(train), [
            ((0, "lower"), (-1, 0, 1)), ((0, "upper"), (2, 0, 1)), ((2, "upper"), (1, 2, 3)),
            ((6, "lower"), (0, -3, 4)), ((9, "lower"), (0, 6, -11)), ((9, "upper"), (0, -6, 11)),
        ])

    def test_trains_without_edges(self):
        for train in ([], [("stop", None, None)], [("gap", (1, 1)), ("stop", None, None), ("prism", (1, 1))]):
            self.assertEqual(half_planes_of(train), [])

    def test_both_edges_alike(self):
        self.assertEqual(half_planes_of([("stop", (2, 3), (2, 3))]),
                         [((0, "lower"), (-3, 0, -2)), ((0, "upper"), (3, 0, 2))])

    def test_the_edges_in_order(self):
        for train in small_trains(60, 21):
            edges = []
            for index, part in enumerate(train):
                if part[0] == "stop":
                    edges += [(index, "lower")] if part[1] is not None else []
                    edges += [(index, "upper")] if part[2] is not None else []
            self.assertEqual([edge for edge, _ in half_planes_of(train)], edges)

    def test_a_ray_passes_exactly_if_all_half_planes_contain_it(self):
        for train in small_trains(60, 22):
            half_planes = region_of(train)
            self.assertEqual(half_planes, [half_plane for _, half_plane in half_planes_of(train)])
            for found in GRID[::3]:
                self.assertIs(contains_ray(half_planes, found), exit_ray(train, found) is not None)

    def test_each_half_plane_tells_its_own_edge(self):
        for train in small_trains(60, 23):
            for (index, side), half_plane in half_planes_of(train):
                stop = train[index]
                alone = [part for part in train[:index] if part[0] != "stop"]
                alone.append(("stop", stop[1], None) if side == "lower" else ("stop", None, stop[2]))
                for found in GRID[::7]:
                    self.assertIs(contains_ray([half_plane], found), trace_ray(alone, found)[1] is None)

    def test_wide_numbers(self):
        train = [("gap", (HUGE, WIDE)), ("stop", (-1, HUGE), (WIDE, 1))]
        self.assertEqual(half_planes_of(train), [
            ((1, "lower"), plane(-1, Fraction(-HUGE, WIDE), Fraction(1, HUGE))),
            ((1, "upper"), plane(1, Fraction(HUGE, WIDE), WIDE)),
        ])


class SingleRays(unittest.TestCase):
    def test_values(self):
        self.assertEqual(value_at((2, -3, 5), ((1, 2), (1, 3))), (0, 1))
        self.assertEqual(value_at((2, -3, 5), ((1, 4), (1, 6))), (0, 1))
        self.assertEqual(value_at((1, 1, 0), ((1, 2), (1, 3))), (5, 6))
        self.assertEqual(value_at((HUGE, 0, 0), ((1, HUGE), (WIDE, 1))), (1, 1))
        for half_plane in [half_plane for half_planes in ALL_REGIONS for half_plane in half_planes]:
            for found in GRID[::11] + [(pair(HUGE, WIDE), pair(-1, HUGE))]:
                self.assertEqual(value_at(half_plane, found), pair(oracle.value(half_plane, found)))

    def test_contained_rays(self):
        for half_planes in ALL_REGIONS + MANY[:60]:
            for found in GRID:
                self.assertIs(contains_ray(half_planes, found), oracle.inside(half_planes, found))

    def test_all_rays_without_half_planes(self):
        self.assertIs(contains_ray([], ((HUGE, 1), (-WIDE, HUGE))), True)

    def test_the_very_line(self):
        self.assertIs(contains_ray([(2, 3, 5)], ((1, 1), (1, 1))), True)
        self.assertIs(contains_ray([(2, 3, 5)], ((HUGE + 1, HUGE), (1, 1))), False)
        self.assertIs(contains_ray([(2, 3, 5)], ((HUGE - 1, HUGE), (1, 1))), True)
        self.assertIs(contains_ray([(1, 0, 9), (2, 3, 5)], ((HUGE + 1, HUGE), (1, 1))), False)
        self.assertIs(contains_ray([(2, 3, 5), (1, 0, 9)], ((HUGE + 1, HUGE), (1, 1))), False)

    def test_determinants_and_products(self):
        self.assertEqual(determinant((2, 3, 9), (5, 7, -9)), -1)
        self.assertEqual(determinant((5, 7, -9), (2, 3, 9)), 1)
        self.assertEqual(product((2, 3, 9), (5, 7, -9)), 31)
        self.assertEqual(determinant((2, -4, 1), (-1, 2, 1)), 0)
        self.assertEqual(product((2, -4, 1), (-1, 2, 1)), -10)
        self.assertEqual(determinant((HUGE, 1, 0), (1, WIDE, 0)), HUGE * WIDE - 1)
        self.assertEqual(product((HUGE, 1, 0), (WIDE, 1, 0)), HUGE * WIDE + 1)


class Ranges(unittest.TestCase):
    def check(self, half_planes, p, q):
        expected = oracle.bounds(half_planes, p, q)
        told = oracle.as_told(expected)
        p, q = pair(p), pair(q)
        with self.subTest(half_planes=half_planes, p=p, q=q):
            found = direction_range(half_planes, p, q)
            self.assertEqual(found, told)
            if told is not None:
                self.assertIsInstance(found, tuple)
                self.assertEqual(infimum(half_planes, p, q), told[0])
                self.assertEqual(supremum(half_planes, p, q), told[1])

    def test_all_samples(self):
        for half_planes in ALL_REGIONS:
            for p, q in DIRECTIONS + [(Fraction(2, 3), Fraction(-1, 5)), (Fraction(WIDE, HUGE), HUGE)]:
                self.check(half_planes, p, q)

    def test_many_small_regions(self):
        for half_planes in MANY:
            for p, q in DIRECTIONS[::2] + [(Fraction(1, 2), Fraction(-1, 3))]:
                self.check(half_planes, p, q)

    def test_told_ranges(self):
        square = [(1, 0, 1), (-1, 0, 0), (0, 1, 1), (0, -1, 0)]
        self.assertEqual(direction_range(square, (1, 1), (1, 1)), ((0, 1), (2, 1)))
        self.assertEqual(direction_range(square, (1, 2), (-1, 3)), ((-1, 3), (1, 2)))
        wedge = [(-1, 0, 0), (0, -1, 0)]
        self.assertEqual(direction_range(wedge, (1, 1), (1, 1)), ((0, 1), None))
        self.assertEqual(direction_range(wedge, (-1, 1), (0, 1)), (None, (0, 1)))
        self.assertEqual(direction_range(wedge, (1, 1), (-1, 1)), (None, None))

    def test_no_half_planes(self):
        self.assertEqual(direction_range([], (1, 1), (0, 1)), (None, None))
        self.assertIsNone(supremum([], (1, 2), (-1, 1)))
        self.assertIsNone(infimum([], (1, 2), (-1, 1)))

    def test_both_zero(self):
        for half_planes in WITH_RAYS:
            self.assertEqual(direction_range(half_planes, (0, 1), (0, 1)), ((0, 1), (0, 1)))
            self.assertEqual(supremum(half_planes, (0, 1), (0, 1)), (0, 1))
            self.assertEqual(infimum(half_planes, (0, 1), (0, 1)), (0, 1))

    def test_regions_without_rays(self):
        for half_planes in REGIONS["empty"]:
            for p, q in DIRECTIONS:
                self.assertIsNone(direction_range(half_planes, pair(p), pair(q)))

    def test_a_bound_is_the_value_at_some_ray(self):
        for half_planes in WITH_RAYS + MANY[:100]:
            found = direction_range(half_planes, (1, 2), (-2, 3))
            for bound in found or ():
                if bound is not None:
                    line = [make_half_plane((1, 2), (-2, 3), bound),
                            make_half_plane((-1, 2), (2, 3), pair(-exact(bound)))]
                    self.assertIs(is_empty(half_planes + line), False)


class Kinds(unittest.TestCase):
    def test_the_samples_are_half_planes(self):
        for half_planes in ALL_REGIONS + MANY:
            for half_plane in half_planes:
                self.assertEqual(math.gcd(*half_plane), 1)
                self.assertNotEqual(half_plane[:2], (0, 0))

    def test_all_samples(self):
        for kind, regions in REGIONS.items():
            for half_planes in regions:
                for turned in (half_planes, half_planes[::-1], half_planes + half_planes):
                    with self.subTest(half_planes=turned):
                        self.assertEqual(region_kind(turned), kind)
                        self.assertIs(is_empty(turned), kind == "empty")

    def test_many_small_regions(self):
        kinds = set()
        for half_planes in MANY:
            with self.subTest(half_planes=half_planes):
                kind = oracle.kind(half_planes)
                kinds.add(kind)
                self.assertEqual(region_kind(half_planes), kind)
                self.assertIs(is_empty(half_planes), kind == "empty")
        self.assertEqual(kinds, set(REGIONS))

    def test_a_very_thin_region(self):
        self.assertEqual(region_kind([(HUGE, 0, 1), (-1, 0, 0)]), "area")
        self.assertEqual(region_kind([(HUGE, 0, 1), (-HUGE, 0, -1)]), "line")
        self.assertEqual(region_kind([(HUGE, 0, -1), (-1, 0, 0)]), "empty")

    def test_regions_without_rays_of_which_each_two_have_some(self):
        for half_planes in REGIONS["empty"]:
            pairs = [[one, other] for one in half_planes for other in half_planes]
            if all(oracle.has_rays(two) for two in pairs):
                for two in pairs:
                    self.assertIs(is_empty(two), False)
                self.assertIs(is_empty(half_planes), True)

    def test_a_half_plane_more(self):
        square = [(1, 0, 1), (-1, 0, 0), (0, 1, 1), (0, -1, 0)]
        self.assertEqual(region_kind(square + [(-1, -1, -2)]), "point")
        self.assertEqual(region_kind(square + [(-1, 0, -1)]), "segment")
        self.assertEqual(region_kind(square + [(-1, -1, -3)]), "empty")
        self.assertEqual(region_kind(square[:3] + [(-1, 0, -1)]), "halfLine")
        self.assertEqual(region_kind(square[:2] + [(-1, 0, -1)]), "line")


class Lines(unittest.TestCase):
    def test_all_samples(self):
        for half_planes in WITH_RAYS + [found for found in MANY if oracle.has_rays(found)]:
            expected = None
            for half_plane in half_planes:
                low, high = oracle.bounds(half_planes, half_plane[0], half_plane[1])
                if expected is None and low == high == half_plane[2]:
                    expected = half_plane
            with self.subTest(half_planes=half_planes):
                self.assertEqual(line_of(half_planes), expected)

    def test_the_first_one_is_told(self):
        self.assertEqual(line_of([(1, 0, 5), (-1, -1, -2), (1, 1, 2)]), (-1, -1, -2))
        self.assertEqual(line_of([(1, 0, 5), (1, 1, 2), (-1, -1, -2)]), (1, 1, 2))
        self.assertEqual(line_of([(1, 1, 3), (-1, -1, -2), (1, 1, 2)]), (-1, -1, -2))

    def test_a_point_lies_on_several(self):
        self.assertEqual(line_of([(1, 0, 1), (-1, 0, 0), (0, -1, 0), (1, 1, 0)]), (-1, 0, 0))
        self.assertEqual(line_of([(1, 1, 0), (1, 0, 1), (-1, 0, 0), (0, -1, 0)]), (1, 1, 0))

    def test_none(self):
        self.assertIsNone(line_of([]))
        self.assertIsNone(line_of([(1, 0, 0), (1, 0, 0)]))
        self.assertIsNone(line_of([(1, 0, 0), (0, 1, 0), (1, 1, 0)]))


class SampleRays(unittest.TestCase):
    def test_all_samples(self):
        for half_planes in ALL_REGIONS + MANY:
            with self.subTest(half_planes=half_planes):
                found = sample_ray(half_planes)
                self.assertEqual(found, oracle.sample(half_planes))
                if found is not None:
                    self.assertIsInstance(found, tuple)
                    self.assertTrue(is_fraction(found[0]) and is_fraction(found[1]))
                    self.assertTrue(oracle.inside(half_planes, found))

    def test_told_rays(self):
        self.assertEqual(sample_ray([]), ((0, 1), (0, 1)))
        self.assertEqual(sample_ray([(-1, 0, -2), (0, 1, -3)]), ((2, 1), (-3, 1)))
        self.assertEqual(sample_ray([(2, 0, -1), (-1, -1, -3)]), ((-1, 2), (7, 2)))
        self.assertEqual(sample_ray([(0, -3, -1)]), ((0, 1), (1, 3)))
        self.assertEqual(sample_ray([(-1, -1, -2), (0, 1, 1)]), ((1, 1), (1, 1)))
        self.assertEqual(sample_ray([(-1, -1, -2)]), ((0, 1), (2, 1)))

    def test_no_rays(self):
        for half_planes in REGIONS["empty"]:
            self.assertIsNone(sample_ray(half_planes))

    def test_the_height_counts_ahead_of_the_slope(self):
        self.assertEqual(sample_ray([(-HUGE, -1, -HUGE)]), ((0, 1), (HUGE, 1)))


class MappedHalfPlanes(unittest.TestCase):
    def test_told_half_planes(self):
        gap = ray_transfer([("gap", (2, 1))])
        self.assertEqual(map_half_planes(gap, [(1, 0, 3), (0, 1, 5), (-1, 2, 0)]),
                         [(1, -2, 3), (0, 1, 5), (-1, 4, 0)])
        prism = ray_transfer([("prism", (1, 2))])
        self.assertEqual(map_half_planes(prism, [(0, 1, 1), (1, 0, 1)]), [(0, 2, 3), (1, 0, 1)])
        self.assertEqual(map_half_planes(prism, []), [])

    def test_a_ray_is_in_exactly_if_what_is_made_of_it_is(self):
        for train, half_planes in zip(small_trains(80, 31), ALL_REGIONS + MANY):
            transfer = ray_transfer(train)
            mapped = map_half_planes(transfer, half_planes)
            self.assertIsInstance(mapped, list)
            self.assertEqual(len(mapped), len(half_planes))
            for half_plane, image in zip(half_planes, mapped):
                self.assertEqual(math.gcd(*image), 1)
                for found in GRID[::9]:
                    self.assertIs(contains_ray([image], apply_map(transfer, found)),
                                  contains_ray([half_plane], found))

    def test_the_kind_stays(self):
        for train, half_planes in zip(small_trains(len(ALL_REGIONS), 32), ALL_REGIONS):
            mapped = map_half_planes(ray_transfer(train), half_planes)
            self.assertEqual(region_kind(mapped), region_kind(half_planes))


class ListsStay(unittest.TestCase):
    def test_what_is_passed_in_stays_as_it_was(self):
        transfer = ray_transfer([("gap", (2, 1)), ("prism", (1, 3))])
        for half_planes in WITH_RAYS:
            kept = copy.deepcopy(half_planes)
            for used in (is_empty, region_kind, line_of, sample_ray):
                used(half_planes)
            contains_ray(half_planes, ((0, 1), (0, 1)))
            direction_range(half_planes, (1, 1), (1, 2))
            supremum(half_planes, (1, 1), (1, 2))
            infimum(half_planes, (1, 1), (1, 2))
            map_half_planes(transfer, half_planes)
            self.assertEqual(half_planes, kept)

    def test_the_train_stays_and_the_list_is_new(self):
        for train in small_trains(30, 24):
            kept = copy.deepcopy(train)
            first, second = half_planes_of(train), half_planes_of(train)
            self.assertEqual(train, kept)
            self.assertIsInstance(first, list)
            self.assertIsNot(first, second)
            self.assertEqual(first, second)

    def test_mapped_lists_are_new(self):
        identity = ray_transfer([])
        for half_planes in ALL_REGIONS:
            mapped = map_half_planes(identity, half_planes)
            self.assertEqual(mapped, half_planes)
            self.assertIsNot(mapped, half_planes)


if __name__ == "__main__":
    unittest.main()
