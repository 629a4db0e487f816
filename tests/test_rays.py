"""Points [3] and [4], and the heading raytrain/rays.py of the interface."""

import copy
import unittest

from raytrain.rays import exit_ray, gone_through, passes_stop, trace_ray
from tests.helper import HUGE, WIDE, exact, is_fraction, pair, small_fractions

TINY = (1, HUGE)
VALUES = [pair(0), pair(1), pair(-1), pair(2, 3), pair(-5, 2), pair(HUGE, WIDE), pair(-WIDE, HUGE)]
RAYS = [(height, slope) for height in VALUES for slope in VALUES]
OPEN = ("stop", None, None)
SHUT_ABOVE = ("stop", None, (-100, 1))
SHUT_BELOW = ("stop", (100, 1), None)


class PassesStop(unittest.TestCase):
    def test_both_edges(self):
        stop = ("stop", (-1, 2), (2, 3))
        for height in small_fractions():
            with self.subTest(height=height):
                inside = pair(-1, 2) == height or pair(2, 3) == height
                inside = inside or exact((-1, 2)) < exact(height) < exact((2, 3))
                self.assertIs(passes_stop(stop, height), inside)

    def test_the_very_edges(self):
        stop = ("stop", (-1, 2), (2, 3))
        self.assertIs(passes_stop(stop, (-1, 2)), True)
        self.assertIs(passes_stop(stop, (2, 3)), True)
        self.assertIs(passes_stop(stop, pair(-HUGE - 2, 2 * HUGE)), False)
        self.assertIs(passes_stop(stop, pair(2 * HUGE + 3, 3 * HUGE)), False)
        self.assertIs(passes_stop(stop, pair(-HUGE + 2, 2 * HUGE)), True)
        self.assertIs(passes_stop(stop, pair(2 * HUGE - 3, 3 * HUGE)), True)

    def test_only_an_upper_edge(self):
        stop = ("stop", None, (0, 1))
        self.assertIs(passes_stop(stop, (-HUGE, 1)), True)
        self.assertIs(passes_stop(stop, (0, 1)), True)
        self.assertIs(passes_stop(stop, TINY), False)

    def test_only_a_lower_edge(self):
        stop = ("stop", (0, 1), None)
        self.assertIs(passes_stop(stop, (HUGE, 1)), True)
        self.assertIs(passes_stop(stop, (0, 1)), True)
        self.assertIs(passes_stop(stop, (-1, HUGE)), False)

    def test_no_edges(self):
        for height in VALUES:
            with self.subTest(height=height):
                self.assertIs(passes_stop(OPEN, height), True)

    def test_one_height_between_the_edges(self):
        stop = ("stop", (1, 3), (1, 3))
        self.assertIs(passes_stop(stop, (1, 3)), True)
        self.assertIs(passes_stop(stop, (1, 2)), False)
        self.assertIs(passes_stop(stop, (1, 4)), False)

    def test_edges_on_one_side_of_zero(self):
        for stop, inside, outside in (
            (("stop", (1, 1), (2, 1)), (3, 2), (-3, 2)),
            (("stop", (-2, 1), (-1, 1)), (-3, 2), (3, 2)),
        ):
            with self.subTest(stop=stop):
                self.assertIs(passes_stop(stop, inside), True)
                self.assertIs(passes_stop(stop, outside), False)
                self.assertIs(passes_stop(stop, (0, 1)), False)


class GoneThrough(unittest.TestCase):
    def check(self, element, ray, height, slope):
        behind = gone_through(element, ray)
        self.assertIsInstance(behind, tuple)
        self.assertTrue(is_fraction(behind[0]) and is_fraction(behind[1]))
        self.assertEqual(behind, (pair(height), pair(slope)))

    def test_all_elements_and_rays(self):
        for ray in RAYS:
            height, slope = exact(ray[0]), exact(ray[1])
            for value in VALUES:
                number = exact(value)
                with self.subTest(ray=ray, value=value):
                    self.check(("gap", value), ray, height + number * slope, slope)
                    self.check(("prism", value), ray, height, slope + number)
                    if number != 0:
                        self.check(("afocal", value), ray, number * height, slope / number)
                    for center in VALUES:
                        bent = slope - number * (height - exact(center))
                        self.check(("lens", value, center), ray, height, bent)

    def test_told_results(self):
        ray = ((1, 2), (1, 3))
        self.assertEqual(gone_through(("gap", (3, 1)), ray), ((3, 2), (1, 3)))
        self.assertEqual(gone_through(("gap", (-3, 2)), ray), ((0, 1), (1, 3)))
        self.assertEqual(gone_through(("lens", (2, 3), (0, 1)), ray), ((1, 2), (0, 1)))
        self.assertEqual(gone_through(("lens", (2, 1), (1, 1)), ray), ((1, 2), (4, 3)))
        self.assertEqual(gone_through(("lens", (-2, 1), (-1, 1)), ray), ((1, 2), (10, 3)))
        self.assertEqual(gone_through(("prism", (-1, 3)), ray), ((1, 2), (0, 1)))
        self.assertEqual(gone_through(("afocal", (-2, 1)), ray), ((-1, 1), (-1, 6)))
        self.assertEqual(gone_through(("afocal", (1, 2)), ray), ((1, 4), (2, 3)))

    def test_a_stop_changes_nothing(self):
        for ray in RAYS:
            with self.subTest(ray=ray):
                self.assertEqual(gone_through(OPEN, ray), ray)
                self.assertEqual(gone_through(("stop", ray[0], ray[0]), ray), ray)

    def test_a_stop_blocks(self):
        for slope in VALUES:
            with self.subTest(slope=slope):
                self.assertIsNone(gone_through(("stop", (0, 1), None), ((-1, HUGE), slope)))
                self.assertIsNone(gone_through(("stop", None, (0, 1)), ((1, HUGE), slope)))
                self.assertIsNone(gone_through(("stop", (0, 1), (1, 1)), ((2, 1), slope)))
                self.assertIsNone(gone_through(("stop", (0, 1), (1, 1)), ((-2, 1), slope)))


TELESCOPE = [
    ("stop", (-1, 1), (1, 1)),
    ("gap", (2, 1)),
    ("lens", (1, 2), (1, 1)),
    ("stop", (-3, 1), (3, 1)),
    ("prism", (1, 3)),
    ("afocal", (-2, 1)),
    ("stop", None, (4, 1)),
]


class TraceRay(unittest.TestCase):
    def test_a_ray_that_passes(self):
        ray = ((1, 1), (1, 1))
        rays = [
            ray, ray, ((3, 1), (1, 1)), ((3, 1), (0, 1)), ((3, 1), (0, 1)),
            ((3, 1), (1, 3)), ((-6, 1), (-1, 6)), ((-6, 1), (-1, 6)),
        ]
        self.assertEqual(trace_ray(TELESCOPE, ray), (rays, None))
        self.assertEqual(exit_ray(TELESCOPE, ray), ((-6, 1), (-1, 6)))

    def test_a_ray_that_the_first_stop_blocks(self):
        ray = ((HUGE + 1, HUGE), (0, 1))
        self.assertEqual(trace_ray(TELESCOPE, ray), ([ray], 0))
        self.assertIsNone(exit_ray(TELESCOPE, ray))

    def test_a_ray_that_a_stop_in_the_middle_blocks(self):
        ray = ((1, 1), (3, 2))
        rays = [ray, ray, ((4, 1), (3, 2)), ((4, 1), (0, 1))]
        self.assertEqual(trace_ray(TELESCOPE, ray), (rays, 3))
        self.assertIsNone(exit_ray(TELESCOPE, ray))

    def test_a_ray_that_the_last_stop_blocks(self):
        ray = ((-1, 1), (-1, 1))
        rays = [
            ray, ray, ((-3, 1), (-1, 1)), ((-3, 1), (1, 1)), ((-3, 1), (1, 1)),
            ((-3, 1), (4, 3)), ((6, 1), (-2, 3)),
        ]
        self.assertEqual(trace_ray(TELESCOPE, ray), (rays, 6))
        self.assertIsNone(exit_ray(TELESCOPE, ray))

    def test_a_ray_at_the_edge_of_the_last_stop(self):
        ray = ((0, 1), (-1, 1))
        self.assertEqual(exit_ray(TELESCOPE, ray), ((4, 1), (-5, 12)))
        above = ((0, 1), (-HUGE - 1, HUGE))
        self.assertIsNone(exit_ray(TELESCOPE, above))
        self.assertEqual(trace_ray(TELESCOPE, above)[1], 6)

    def test_the_first_of_several_blocking_stops_is_told(self):
        ray = ((0, 1), (1, 1))
        train = [("gap", (1, 1)), SHUT_ABOVE, ("gap", (1, 1)), SHUT_BELOW]
        self.assertEqual(trace_ray(train, ray), ([ray, ((1, 1), (1, 1))], 1))

    def test_a_train_of_one_stop(self):
        ray = ((1, 2), (5, 3))
        self.assertEqual(trace_ray([SHUT_BELOW], ray), ([ray], 0))
        self.assertEqual(trace_ray([OPEN], ray), ([ray, ray], None))
        self.assertIsNone(exit_ray([SHUT_BELOW], ray))
        self.assertEqual(exit_ray([OPEN], ray), ray)

    def test_a_train_without_elements(self):
        ray = ((-1, 2), (5, 3))
        self.assertEqual(trace_ray([], ray), ([ray], None))
        self.assertEqual(exit_ray([], ray), ray)

    def test_elements_are_gone_through_in_order(self):
        ray = ((1, 1), (0, 1))
        gap, lens = ("gap", (1, 1)), ("lens", (1, 1), (0, 1))
        self.assertEqual(exit_ray([gap, lens], ray), ((1, 1), (-1, 1)))
        self.assertEqual(exit_ray([lens, gap], ray), ((0, 1), (-1, 1)))

    def test_wide_numbers(self):
        train = [("gap", (HUGE, WIDE)), ("afocal", (WIDE, 3)), ("stop", None, (HUGE, 3)), ("prism", (-3, WIDE))]
        ray = ((0, 1), (1, 1))
        behind_gap = ((HUGE, WIDE), (1, 1))
        behind_afocal = (pair(HUGE, 3), pair(3, WIDE))
        rays = [ray, behind_gap, behind_afocal, behind_afocal, (pair(HUGE, 3), (0, 1))]
        self.assertEqual(trace_ray(train, ray), (rays, None))

    def test_the_kinds_of_what_is_handed_out(self):
        for ray in (((0, 1), (0, 1)), ((2, 1), (0, 1))):
            with self.subTest(ray=ray):
                traced = trace_ray(TELESCOPE, ray)
                self.assertIsInstance(traced, tuple)
                self.assertEqual(len(traced), 2)
                self.assertIsInstance(traced[0], list)
                for found in traced[0]:
                    self.assertIsInstance(found, tuple)
                    self.assertTrue(is_fraction(found[0]) and is_fraction(found[1]))

    def test_the_exit_is_the_last_ray_of_the_trace(self):
        for ray in RAYS:
            with self.subTest(ray=ray):
                rays, blocking = trace_ray(TELESCOPE, ray)
                expected = None if blocking is not None else rays[-1]
                self.assertEqual(exit_ray(TELESCOPE, ray), expected)


class ListsStay(unittest.TestCase):
    def test_the_train_stays_as_it_was(self):
        train = list(TELESCOPE)
        kept = copy.deepcopy(train)
        for ray in RAYS:
            trace_ray(train, ray)
            exit_ray(train, ray)
        self.assertEqual(train, kept)

    def test_the_list_of_rays_is_new(self):
        for train in ([], [SHUT_BELOW], list(TELESCOPE)):
            ray = ((1, 1), (1, 1))
            first, second = trace_ray(train, ray)[0], trace_ray(train, ray)[0]
            with self.subTest(train=train):
                self.assertIsNot(first, second)
                self.assertIsNot(first, train)
                kept = list(second)
                first.clear()
                self.assertEqual(second, kept)
                self.assertEqual(trace_ray(train, ray)[0], kept)


if __name__ == "__main__":
    unittest.main()
