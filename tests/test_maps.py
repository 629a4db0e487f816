"""Points [5] and [6], and the heading raytrain/maps.py of the interface."""

import copy
import unittest
from fractions import Fraction

from raytrain.maps import (
    IDENTITY, apply_map, compose_maps, element_map, image_distance, invert_map, magnification, ray_transfer,
)
from raytrain.rays import exit_ray
from tests.helper import HUGE, WIDE, exact, is_fraction, pair
from tests.samples import small_trains

VALUES = [pair(0), pair(1), pair(-1), pair(2, 3), pair(-5, 2), pair(HUGE, WIDE), pair(-WIDE, HUGE)]
RAYS = [(height, slope) for height in VALUES for slope in VALUES]
THIN_LENS = [("gap", (3, 1)), ("lens", (1, 2), (1, 1)), ("gap", (2, 1))]


def open_train(train):
    """Return the train without its stops."""
    return [part for part in train if part[0] != "stop"]


def some_elements():
    """Return an element of each kind for each of several numbers."""
    found = [("stop", None, None), ("stop", (0, 1), (1, 2))]
    for number in VALUES:
        found += [("gap", number), ("prism", number)]
        found += [("lens", number, center) for center in VALUES]
        found += [("afocal", number)] if number != (0, 1) else []
    return found


def some_trains():
    """Return trains with small and with wide numbers."""
    wide = [
        [("gap", (HUGE, WIDE)), ("lens", (WIDE, HUGE), (HUGE, 3)), ("afocal", (-WIDE, 2)), ("prism", (1, HUGE))],
        [("afocal", (HUGE, 1)), ("gap", (-1, WIDE)), ("lens", (HUGE, 1), (1, WIDE))],
    ]
    return small_trains(40, 5) + wide + [[], THIN_LENS, [("gap", (1, 1)), ("lens", (1, 1), (0, 1))]]


class ElementMaps(unittest.TestCase):
    def test_the_identity(self):
        self.assertEqual(IDENTITY, ((1, 1), (0, 1), (0, 1), (1, 1), (0, 1), (0, 1)))
        for ray in RAYS:
            self.assertEqual(apply_map(IDENTITY, ray), ray)

    def test_told_maps(self):
        zero, one = (0, 1), (1, 1)
        self.assertEqual(element_map(("gap", (2, 3))), (one, (2, 3), zero, one, zero, zero))
        self.assertEqual(element_map(("lens", (2, 3), (5, 1))), (one, zero, (-2, 3), one, zero, (10, 3)))
        self.assertEqual(element_map(("lens", (-1, 2), (-1, 3))), (one, zero, (1, 2), one, zero, (1, 6)))
        self.assertEqual(element_map(("prism", (-2, 3))), (one, zero, zero, one, zero, (-2, 3)))
        self.assertEqual(element_map(("afocal", (-2, 3))), ((-2, 3), zero, zero, (-3, 2), zero, zero))
        self.assertEqual(element_map(("stop", (1, 1), (2, 1))), IDENTITY)
        self.assertEqual(element_map(("stop", None, None)), IDENTITY)

    def test_the_map_does_what_the_element_does(self):
        for part in some_elements():
            if part[0] != "stop":
                for ray in RAYS:
                    with self.subTest(part=part, ray=ray):
                        self.assertEqual(apply_map(element_map(part), ray), exit_ray([part], ray))


class Transfers(unittest.TestCase):
    def test_a_told_train(self):
        transfer = ray_transfer(THIN_LENS)
        self.assertEqual(transfer, ((0, 1), (2, 1), (-1, 2), (-1, 2), (1, 1), (1, 2)))

    def test_a_train_without_elements(self):
        self.assertEqual(ray_transfer([]), IDENTITY)

    def test_the_exit_is_what_the_map_makes(self):
        for train in some_trains():
            for ray in RAYS:
                with self.subTest(train=train, ray=ray):
                    made = apply_map(ray_transfer(train), ray)
                    self.assertEqual(made, exit_ray(open_train(train), ray))
                    self.assertTrue(is_fraction(made[0]) and is_fraction(made[1]))

    def test_stops_are_left_out(self):
        for train in some_trains():
            self.assertEqual(ray_transfer(train), ray_transfer(open_train(train)))

    def test_the_form_and_the_determinant(self):
        for train in some_trains():
            transfer = ray_transfer(train)
            self.assertIsInstance(transfer, tuple)
            self.assertEqual(len(transfer), 6)
            self.assertTrue(all(is_fraction(number) for number in transfer))
            a, b, c, d = [exact(number) for number in transfer[:4]]
            self.assertEqual(a * d - b * c, 1)

    def test_the_train_stays_as_it_was(self):
        for train in some_trains():
            kept = copy.deepcopy(train)
            ray_transfer(train)
            self.assertEqual(train, kept)


class Compositions(unittest.TestCase):
    def test_one_train_behind_another(self):
        trains = some_trains()
        for one, other in zip(trains, trains[3:] + trains[:3]):
            composed = compose_maps(ray_transfer(one), ray_transfer(other))
            with self.subTest(one=one, other=other):
                self.assertEqual(composed, ray_transfer(one + other))

    def test_the_first_one_is_applied_first(self):
        gap, lens = element_map(("gap", (1, 1))), element_map(("lens", (1, 1), (0, 1)))
        self.assertEqual(compose_maps(gap, lens), ((1, 1), (1, 1), (-1, 1), (0, 1), (0, 1), (0, 1)))
        self.assertEqual(compose_maps(lens, gap), ((0, 1), (1, 1), (-1, 1), (1, 1), (0, 1), (0, 1)))

    def test_the_shifts(self):
        prism, gap = element_map(("prism", (2, 1))), element_map(("gap", (3, 1)))
        self.assertEqual(compose_maps(prism, gap)[4:], ((6, 1), (2, 1)))
        self.assertEqual(compose_maps(gap, prism)[4:], ((0, 1), (2, 1)))

    def test_the_identity(self):
        for train in some_trains():
            transfer = ray_transfer(train)
            self.assertEqual(compose_maps(transfer, IDENTITY), transfer)
            self.assertEqual(compose_maps(IDENTITY, transfer), transfer)

    def test_inverses(self):
        for train in some_trains():
            transfer = ray_transfer(train)
            inverse = invert_map(transfer)
            with self.subTest(train=train):
                self.assertEqual(len(inverse), 6)
                self.assertTrue(all(is_fraction(number) for number in inverse))
                self.assertEqual(compose_maps(transfer, inverse), IDENTITY)
                self.assertEqual(compose_maps(inverse, transfer), IDENTITY)
                for ray in RAYS[::5]:
                    self.assertEqual(apply_map(inverse, apply_map(transfer, ray)), ray)

    def test_a_told_inverse(self):
        transfer = ((2, 1), (1, 1), (3, 1), (2, 1), (5, 1), (-7, 1))
        self.assertEqual(invert_map(transfer), ((2, 1), (-1, 1), (-3, 1), (2, 1), (-17, 1), (29, 1)))


def height_behind(transfer, distance, height, slope, behind):
    """Return the height, so far behind the exit, of a ray of an object point, by numbers of Python's own."""
    a, b, c, d, e, f = [exact(number) for number in transfer]
    entrance = height + distance * slope
    return a * entrance + b * slope + e + behind * (c * entrance + d * slope + f)


class Images(unittest.TestCase):
    def test_told_images(self):
        lens = ray_transfer([("lens", (1, 2), (0, 1))])
        self.assertEqual(image_distance(lens, (6, 1)), (3, 1))
        self.assertEqual(magnification(lens, (6, 1)), (-1, 2))
        self.assertEqual(image_distance(lens, (1, 1)), (-2, 1))
        self.assertEqual(magnification(lens, (1, 1)), (2, 1))
        self.assertEqual(image_distance(lens, (-2, 1)), (1, 1))
        self.assertEqual(magnification(lens, (-2, 1)), (1, 2))
        self.assertEqual(image_distance(lens, (0, 1)), (0, 1))
        self.assertEqual(magnification(lens, (0, 1)), (1, 1))

    def test_no_image(self):
        lens = ray_transfer([("lens", (1, 2), (3, 1))])
        self.assertIsNone(image_distance(lens, (2, 1)))
        self.assertIsNone(magnification(lens, (2, 1)))
        turned = ray_transfer(THIN_LENS)
        self.assertIsNone(image_distance(turned, (-1, 1)))
        self.assertIsNone(magnification(turned, (-1, 1)))

    def test_the_identity(self):
        for distance in VALUES:
            self.assertEqual(image_distance(IDENTITY, distance), pair(-exact(distance)))
            self.assertEqual(magnification(IDENTITY, distance), (1, 1))

    def test_a_magnification_of_the_afocal_element(self):
        afocal = element_map(("afocal", (-3, 2)))
        self.assertEqual(magnification(afocal, (5, 1)), (-3, 2))
        self.assertEqual(image_distance(afocal, (4, 1)), (-9, 1))

    def test_all_rays_of_an_object_point_meet_there_and_nowhere_else(self):
        for train in some_trains():
            transfer = ray_transfer(train)
            for distance in VALUES:
                image, factor = image_distance(transfer, distance), magnification(transfer, distance)
                far = exact(distance)
                with self.subTest(train=train, distance=distance):
                    if image is None:
                        self.assertIsNone(factor)
                        self.assertEqual(exact(transfer[2]) * far + exact(transfer[3]), 0)
                        continue
                    self.assertTrue(is_fraction(image) and is_fraction(factor))
                    flat = height_behind(transfer, far, 0, 0, exact(image))
                    steep = height_behind(transfer, far, 0, 1, exact(image))
                    self.assertEqual(flat, steep)
                    raised = height_behind(transfer, far, Fraction(5, 2), 3, exact(image))
                    self.assertEqual(raised - flat, exact(factor) * Fraction(5, 2))
                    aside = exact(image) + 1
                    self.assertNotEqual(height_behind(transfer, far, 0, 0, aside),
                                        height_behind(transfer, far, 0, 1, aside))

    def test_without_an_image_the_rays_leave_with_the_same_slope(self):
        transfer = ray_transfer(THIN_LENS)
        slopes = []
        for slope in VALUES:
            ray = (pair(5 + -1 * exact(slope)), slope)
            slopes.append(apply_map(transfer, ray)[1])
        self.assertEqual(slopes, [slopes[0]] * len(VALUES))


if __name__ == "__main__":
    unittest.main()
