"""Points [26] to [28], and the heading raytrain/bundles.py of the interface."""

import copy
import unittest
from fractions import Fraction

from raytrain.bundles import acceptance_area, bundle, bundle_widths, field_of_view, pupils
from raytrain.rays import exit_ray, gone_through
from raytrain.regions import region_of
from raytrain.shapes import area
from raytrain.texts import parse_train
from tests import oracle
from tests.helper import HUGE, WIDE, exact, is_fraction, pair
from tests.oracle import plane
from tests.samples import small_trains

MANY = small_trains(300, 261, 8)
DISTANCES = [Fraction(0), Fraction(1), Fraction(-1), Fraction(2), Fraction(1, 2), Fraction(-7, 3)]
HEIGHTS = [Fraction(0), Fraction(1), Fraction(-2), Fraction(3, 2)]
POINT = "stop from 0 to 0; gap 1; stop from 1 to 1; gap -1"
EMPTY = "stop from 1; stop to 0"
BOX = "stop from -1 to 1; gap 1; stop from -1 to 1"
SEGMENT = "stop from 0 to 0; gap 1; stop from 0 to 2; gap -1"
HALF_LINE = "stop from 1 to 1; gap 1; stop from 0; gap -1"
WEDGE = "stop to 0; gap 1; stop from 0; gap -1"


def object_ray(distance, height, slope):
    """Return the ray of an object point at the entrance."""
    return oracle.ray(height + distance * slope, slope)


def height_at(train, index, found):
    """Return the height of a ray in front of the element with an index, without the stops."""
    for element in train[:index]:
        if element[0] != "stop":
            found = gone_through(element, found)
    return exact(found[0])


def told_bundle(train, distance, height):
    """Return the bundle, reckoned from the heights at the stops for the slopes 0 and 1."""
    found = [None, None, None, None]
    for index, element in enumerate(train):
        if element[0] != "stop":
            continue
        start = height_at(train, index, object_ray(distance, height, 0))
        growth = height_at(train, index, object_ray(distance, height, 1)) - start
        for side, factor, edge in [("lower", -1, element[1]), ("upper", 1, element[2])]:
            if edge is None:
                continue
            room = factor * (exact(edge) - start)
            if growth == 0 and room < 0:
                return None
            if growth != 0:
                place = 1 if factor * growth > 0 else 0
                bound = room / (factor * growth)
                if found[place] is None or (bound < found[place] if place else bound > found[place]):
                    found[place], found[place + 2] = bound, (index, side)
    if None not in found[:2] and found[0] > found[1]:
        return None
    return tuple(None if bound is None else pair(bound) for bound in found[:2]) + tuple(found[2:])


def in_object_plane(train, distance):
    """Return the half-planes of the pairs (height at the object plane, slope) of the rays that pass."""
    return [plane(p, q + p * distance, r) for p, q, r in region_of(train)]


def told_widths(train, distance):
    """Return the widths, reckoned without the package's regions."""
    half_planes = in_object_plane(train, distance)
    if not oracle.has_rays(half_planes):
        return None
    if not (any(q > 0 for _, q, _ in half_planes) and any(q < 0 for _, q, _ in half_planes)):
        return None
    found = []
    for height in sorted({exact(corner[0]) for corner in oracle.vertices(half_planes)}):
        low, high = oracle.bounds(half_planes + [plane(1, 0, height), plane(-1, 0, -height)], 0, 1)
        found.append((pair(height), pair(high - low)))
    return found


class Bundles(unittest.TestCase):
    def check(self, text, distance, height, expected):
        with self.subTest(text=text, distance=distance, height=height):
            self.assertEqual(bundle(parse_train(text), pair(distance), pair(height)), expected)

    def test_told_bundles(self):
        self.check("stop from -1 to 1", 1, 0, ((-1, 1), (1, 1), (0, "lower"), (0, "upper")))
        self.check("stop from -1 to 1", 2, 0, ((-1, 2), (1, 2), (0, "lower"), (0, "upper")))
        self.check("stop from -1 to 1", 2, 5, ((-3, 1), (-2, 1), (0, "lower"), (0, "upper")))
        self.check("lens 3; stop from -2; gap 1; stop to 5", 1, 0, ((-2, 1), None, (1, "lower"), None))
        self.check("gap 1; stop to 4", 1, 0, (None, (2, 1), None, (1, "upper")))
        self.check("stop from -1 to 1; gap 1; stop from -1 to 1", 1, 0, ((-1, 2), (1, 2), (2, "lower"), (2, "upper")))
        self.check("stop from -1 to 1; gap 1; stop from -1 to 1", 1, 2, ((-3, 2), (-1, 1), (2, "lower"), (0, "upper")))

    def test_object_points_behind_the_entrance(self):
        self.check("stop from -1 to 1", -1, 0, ((-1, 1), (1, 1), (0, "upper"), (0, "lower")))
        self.check("stop from -1 to 3", -1, 0, ((-3, 1), (1, 1), (0, "upper"), (0, "lower")))
        self.check("stop to 1", -1, 0, ((-1, 1), None, (0, "upper"), None))

    def test_without_stops_or_edges(self):
        for text in ["", "gap 1; lens 2 at 1", "stop", "stop; gap 3; stop"]:
            self.check(text, 1, 2, (None, None, None, None))
            self.check(text, 0, 2, (None, None, None, None))

    def test_all_rays_pass_or_none(self):
        self.check("stop from -1 to 1", 0, 1, (None, None, None, None))
        self.check("stop from -1 to 1", 0, -1, (None, None, None, None))
        self.check("stop from -1 to 1", 0, Fraction(-9, 8), None)
        self.check("stop from -1 to 1", 0, Fraction(9, 8), None)
        # The stop is where the image of the object plane is.
        self.check("gap 1; lens 1; gap 2; stop from -1 to 3", 1, 1, (None, None, None, None))
        self.check("gap 1; lens 1; gap 2; stop from -1 to 3", 1, -3, (None, None, None, None))
        self.check("gap 1; lens 1; gap 2; stop from -1 to 3", 1, 2, None)
        self.check("stop from -1 to 1; gap 1; lens 1; gap 2; stop from -1 to 3", 1, 2, None)
        self.check(EMPTY, 1, 0, None)
        self.check("stop from 1; gap 1; stop to 0", 1, 2, ((-1, 1), (-1, 1), (0, "lower"), (2, "upper")))
        self.check("stop from 1; gap 1; stop to 0", 1, Fraction(19, 10), None)

    def test_just_one_ray_passes(self):
        self.check("stop from 0 to 0; gap 1; stop from 0 to 0", 1, 0, ((0, 1), (0, 1), (0, "lower"), (0, "upper")))
        self.check("stop to 0; gap 1; stop from 0", 1, 0, ((0, 1), (0, 1), (2, "lower"), (0, "upper")))
        self.check(POINT, 1, -1, ((1, 1), (1, 1), (0, "lower"), (0, "upper")))
        self.check(POINT, 1, 0, None)

    def test_the_first_of_several_edges(self):
        self.check("stop to 1; stop to 1; gap 1; stop to 2", 1, 0, (None, (1, 1), None, (0, "upper")))
        self.check("stop to 2; gap 1; stop to 2; gap -1; stop to 1", 1, 0, (None, (1, 1), None, (2, "upper")))
        self.check("stop from 0 to 9; gap 1; stop from 0 to 9", 1, 0, ((0, 1), (9, 2), (0, "lower"), (2, "upper")))
        self.check("stop; gap 1; stop from 0; afocal -1; stop to 0", 1, 0, ((0, 1), None, (2, "lower"), None))

    def test_wide_numbers(self):
        train = [("gap", (HUGE, 1)), ("stop", (-WIDE, 1), (1, WIDE))]
        expected = (pair(-WIDE, HUGE + 1), pair(1, WIDE * (HUGE + 1)), (1, "lower"), (1, "upper"))
        self.assertEqual(bundle(train, (1, 1), (0, 1)), expected)

    def test_as_reckoned_from_two_rays(self):
        kinds = set()
        for train in MANY:
            for distance in DISTANCES:
                for height in HEIGHTS:
                    found = bundle(train, pair(distance), pair(height))
                    self.assertEqual(found, told_bundle(train, distance, height), (train, distance, height))
                    kinds.add(found if found is None else tuple(part is None for part in found[:2]))
        self.assertEqual(len(kinds), 5)

    def test_rays_within_and_beyond(self):
        for train in MANY[:150]:
            for height in HEIGHTS:
                found = bundle(train, (1, 1), pair(height))
                if found is None:
                    for slope in range(-4, 5):
                        self.assertIsNone(exit_ray(train, object_ray(1, height, slope)))
                else:
                    low, high = [bound and exact(bound) for bound in found[:2]]
                    for slope in [bound for bound in (low, high) if bound is not None]:
                        self.assertIsNotNone(exit_ray(train, object_ray(1, height, slope)))
                    if low is not None:
                        self.assertIsNone(exit_ray(train, object_ray(1, height, low - Fraction(1, 10 ** 9))))
                    if high is not None:
                        self.assertIsNone(exit_ray(train, object_ray(1, height, high + Fraction(1, 10 ** 9))))


class Pupils(unittest.TestCase):
    def check(self, text, *expected):
        with self.subTest(text=text):
            self.assertEqual(pupils(parse_train(text)), list(expected))

    def test_told_pupils(self):
        self.check("stop from -1 to 2", (0, (0, 1), (-1, 1), (2, 1)))
        self.check("gap 3; stop from -1 to 2", (1, (-3, 1), (-1, 1), (2, 1)))
        self.check("gap 3; prism 1; gap 1; stop to 2", (3, (-4, 1), None, (1, 1)))
        self.check("afocal 2; gap 1; stop from -1 to 3", (2, (-1, 4), (-1, 2), (3, 2)))

    def test_stops_without_edges_and_trains_without_stops(self):
        self.check("")
        self.check("gap 1; lens 2")
        self.check("stop; gap 1; stop", (0, (0, 1), None, None), (2, (-1, 1), None, None))
        self.check("lens 1; gap 1; stop", (2, None, None, None))

    def test_all_stops_in_order(self):
        self.check("stop from 1 to 1; stop from 0; gap 2; stop to 5", (0, (0, 1), (1, 1), (1, 1)),
                   (1, (0, 1), (0, 1), None), (3, (-2, 1), None, (5, 1)))

    def test_negative_divisors(self):
        self.check("lens 2; gap 1; stop from -1", (2, (1, 1), None, (1, 1)))
        self.check("lens 2; gap 1; stop to 3", (2, (1, 1), (-3, 1), None))
        self.check("afocal -2; stop from -1 to 4", (1, (0, 1), (-2, 1), (1, 2)))
        self.check("lens -1; gap -1; stop from -1 to 2", (2, None, (-2, 1), (1, 1)))
        self.check("lens -1; gap -1; stop from -1", (2, None, None, (1, 1)))

    def test_where_a_is_zero(self):
        self.check("lens 1; gap 1; stop from -1 to 2", (2, None, (-1, 1), (2, 1)))
        self.check("lens 1/2; gap 2; prism 1; gap 1; lens 2 at 1; gap 1; stop from -1 to 4", (6, None, (-1, 1), (3, 2)))
        self.check("lens 1 at 3; gap 1; stop from -1 to 2", (2, None, (-4, 1), (-1, 1)))

    def test_rays_through_the_edges_of_the_pupil(self):
        zeros = 0
        focussing = parse_train("lens 1; gap 1; stop from -2 to 1; gap 1; stop to 3; prism 2; gap -1; stop from -1")
        for train in MANY + [focussing]:
            found = pupils(train)
            self.assertEqual([pupil[0] for pupil in found],
                             [index for index, element in enumerate(train) if element[0] == "stop"])
            for index, distance, lower, upper in found:
                images = [bound for bound in (lower, upper) if bound is not None]
                edges = [edge for edge in train[index][1:] if edge is not None]
                self.assertEqual(len(images), len(edges))
                self.assertEqual(sorted(images, key=exact), images)
                zeros += distance is None
                for number in (-1, 0, 2):
                    rays = [object_ray(exact(distance), exact(image), number) if distance is not None
                            else (pair(number), image) for image in images]
                    heights = [height_at(train, index, found) for found in rays]
                    self.assertEqual(sorted(heights), sorted([exact(edge) for edge in edges]))
        self.assertGreater(zeros, 2)


class Fields(unittest.TestCase):
    def check(self, text, distance, expected):
        with self.subTest(text=text, distance=distance):
            self.assertEqual(field_of_view(parse_train(text), pair(distance)), expected)

    def test_told_fields(self):
        self.check("stop from -1 to 1", 0, ((-1, 1), (1, 1)))
        self.check("stop to 2", 0, (None, (2, 1)))
        self.check("stop from 1/3", 0, ((1, 3), None))
        self.check(BOX, 1, ((-3, 1), (3, 1)))
        self.check(BOX, 0, ((-1, 1), (1, 1)))
        self.check(BOX, -1, ((-1, 1), (1, 1)))

    def test_without_bounds(self):
        for text in ["", "gap 1", "stop; lens 1; stop", "stop from -1 to 1", HALF_LINE]:
            self.check(text, 3, (None, None) if text != HALF_LINE else (None, (4, 1)))

    def test_of_few_rays_or_none(self):
        self.check(POINT, 1, ((-1, 1), (-1, 1)))
        self.check(POINT, 0, ((0, 1), (0, 1)))
        self.check(SEGMENT, 1, ((-2, 1), (0, 1)))
        self.check(SEGMENT, 0, ((0, 1), (0, 1)))
        self.check("stop from 1 to 1", 0, ((1, 1), (1, 1)))
        self.check("stop from 1 to 1", 1, (None, None))
        self.check(EMPTY, 1, None)

    def test_as_reckoned_by_elimination(self):
        for train in MANY:
            for distance in DISTANCES:
                expected = oracle.as_told(oracle.bounds(region_of(train), 1, -distance))
                self.assertEqual(field_of_view(train, pair(distance)), expected)


class Widths(unittest.TestCase):
    def check(self, text, distance, expected):
        with self.subTest(text=text, distance=distance):
            wanted = expected if expected is None else [(pair(height), pair(width)) for height, width in expected]
            self.assertEqual(bundle_widths(parse_train(text), pair(distance)), wanted)

    def test_told_widths(self):
        self.check(BOX, 0, [(-1, 2), (1, 2)])
        self.check(BOX, 1, [(-3, 0), (-1, 1), (1, 1), (3, 0)])
        self.check(BOX, -1, [(-1, 2), (1, 2)])
        self.check(BOX, Fraction(-1, 2), [(-1, 0), (0, 4), (1, 0)])

    def test_without_rays_or_bounds(self):
        for text in ["", "stop", "gap 1; stop to 1", "stop from 1 to 1", "stop from -1 to 1", HALF_LINE, WEDGE, EMPTY]:
            self.check(text, 0, None)
        self.check("stop to 1", 1, None)
        self.check("stop from -1", 1, None)
        self.check("gap 1; lens 1; gap 2; stop from -1 to 3", 1, None)
        self.check(EMPTY, 1, None)

    def test_without_corners(self):
        self.check("stop from 1 to 1", 1, [])
        self.check("stop from -1 to 1", 1, [])
        self.check("stop from -1 to 1", Fraction(-1, 5), [])

    def test_of_few_rays(self):
        self.check(POINT, 1, [(-1, 0)])
        self.check(POINT, 0, [(0, 0)])
        self.check(SEGMENT, 0, [(0, 2)])
        self.check(SEGMENT, 1, [(-2, 0), (0, 0)])
        self.check(HALF_LINE, 1, [(2, 0)])

    def test_bounded_slopes_of_heights_without_bounds(self):
        self.check(WEDGE, 2, [(0, 0)])
        self.check("stop to 0; gap 1; stop from 0; stop from 1; gap -1", 2, [(-2, 0)])

    def test_as_reckoned_by_elimination(self):
        lengths = set()
        for train in MANY:
            for distance in DISTANCES:
                found = bundle_widths(train, pair(distance))
                self.assertEqual(found, told_widths(train, distance), (train, distance))
                lengths.add(found if found is None else min(len(found), 4))
        self.assertEqual(lengths, {None, 0, 1, 2, 3, 4})


class Areas(unittest.TestCase):
    def check(self, text, expected):
        with self.subTest(text=text):
            self.assertEqual(acceptance_area(parse_train(text)), expected)

    def test_told_areas(self):
        self.check(BOX, (4, 1))
        self.check("afocal -3; " + BOX + "; lens 5", (4, 1))
        self.check("stop from 0 to 2; lens 1; gap 1/3; stop from 1 to 3/2", (3, 1))
        self.check("stop from 0; gap 1; stop from 0; lens 5; gap 1; stop from -1", (1, 6))

    def test_infinite_and_none(self):
        for text in ["", "stop", "stop from -1 to 1", WEDGE, "stop to 1"]:
            self.check(text, None)
        for text in [POINT, SEGMENT, HALF_LINE, "stop from 1 to 1", EMPTY]:
            self.check(text, (0, 1))

    def test_area_of_the_region(self):
        for train in MANY:
            self.assertEqual(acceptance_area(train), area(region_of(train)))

    def test_the_widths_have_the_area_at_each_distance(self):
        bounded = 0
        for train in MANY:
            whole = acceptance_area(train)
            for distance in DISTANCES if whole not in (None, (0, 1)) else []:
                widths = [(exact(height), exact(width)) for height, width in bundle_widths(train, pair(distance))]
                total = sum((width + other) / 2 * (end - start)
                            for (start, width), (end, other) in zip(widths, widths[1:]))
                self.assertEqual(pair(total), whole)
                bounded += 1
        self.assertGreater(bounded, 60)


class WideNumbers(unittest.TestCase):
    TRAIN = [("stop", (-HUGE, 1), (HUGE, 1)), ("gap", (1, WIDE)), ("stop", (-HUGE, 1), (HUGE, 1))]

    def test_pupils(self):
        self.assertEqual(pupils(self.TRAIN), [(0, (0, 1), (-HUGE, 1), (HUGE, 1)),
                                              (2, (-1, WIDE), (-HUGE, 1), (HUGE, 1))])

    def test_fields_and_widths(self):
        # At this distance in front, the height is twice the one at the first stop minus the one at the other one.
        self.assertEqual(field_of_view(self.TRAIN, (1, WIDE)), ((-3 * HUGE, 1), (3 * HUGE, 1)))
        self.assertEqual(bundle_widths(self.TRAIN, (1, WIDE)),
                         [((-3 * HUGE, 1), (0, 1)), ((-HUGE, 1), (HUGE * WIDE, 1)), ((HUGE, 1), (HUGE * WIDE, 1)),
                          ((3 * HUGE, 1), (0, 1))])

    def test_areas(self):
        self.assertEqual(acceptance_area(self.TRAIN), (4 * HUGE * HUGE * WIDE, 1))


class Values(unittest.TestCase):
    def test_nothing_passed_in_is_changed(self):
        for train in MANY[:60]:
            before = copy.deepcopy(train)
            first = [bundle(train, (1, 1), (0, 1)), pupils(train), field_of_view(train, (1, 1)),
                     bundle_widths(train, (1, 1)), acceptance_area(train)]
            self.assertEqual(train, before)
            pupils(train).clear()
            (bundle_widths(train, (1, 1)) or []).clear()
            self.assertEqual(first, [bundle(train, (1, 1), (0, 1)), pupils(train), field_of_view(train, (1, 1)),
                                     bundle_widths(train, (1, 1)), acceptance_area(train)])

    def test_the_form_of_what_is_handed_out(self):
        for train in MANY:
            told = bundle(train, (-7, 3), (1, 2)) or ()
            numbers = list(told[:2]) + list(field_of_view(train, (1, 2)) or ())
            numbers += [part for pupil in pupils(train) for part in pupil[1:]]
            numbers += [part for width in bundle_widths(train, (1, 2)) or [] for part in width]
            self.assertTrue(all(is_fraction(number) for number in numbers if number is not None))
            self.assertIsInstance(pupils(train), list)


if __name__ == "__main__":
    unittest.main()
