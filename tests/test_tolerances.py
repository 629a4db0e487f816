"""Point [31], and the heading raytrain/tolerances.py of the interface."""

import copy
import random
import unittest
from fractions import Fraction

from raytrain.errors import CannotShift, NoRays, NoSuchElement
from raytrain.rays import exit_ray, gone_through
from raytrain.texts import parse_train
from raytrain.tolerances import clearances, decenter_effect, decenter_range
from tests.helper import HUGE, WIDE, exact, is_fraction, pair
from tests.oracle import ray
from tests.samples import small_number, small_trains

MANY = small_trains(300, 311, 7)
FIXED = [("gap", (1, 1)), ("prism", (2, 1)), ("afocal", (-3, 1))]


def some_rays(seed, many):
    """Return so many small rays, always the same ones for a seed."""
    chance = random.Random(seed)
    return [(small_number(chance), small_number(chance)) for _ in range(many)]


def heights_at_stops(train, found):
    """Return the tuples (index, stop, height) of a ray that no stop blocks."""
    heights = []
    for index, element in enumerate(train):
        if element[0] == "stop":
            heights.append((index, element, exact(found[0])))
        else:
            found = gone_through(element, found)
    return heights


def behind(train, found):
    """Return the ray behind a train that has no stops to block it."""
    for element in train:
        found = found if element[0] == "stop" else gone_through(element, found)
    return found


def told_clearances(train, rays):
    """Return the clearances, ray by ray."""
    found = {}
    for single in rays:
        for index, (_, lower, upper), height in heights_at_stops(train, single):
            if lower is not None:
                found.setdefault((index, "lower"), []).append(height - exact(lower))
            if upper is not None:
                found.setdefault((index, "upper"), []).append(exact(upper) - height)
    return [(edge, pair(min(numbers))) for edge, numbers in found.items()]


def moved(train, index, shift):
    """Return the train with an element shifted upwards."""
    kind, *numbers = train[index]
    if kind == "lens":
        element = (kind, numbers[0], pair(exact(numbers[1]) + shift))
    else:
        element = (kind,) + tuple(None if edge is None else pair(exact(edge) + shift) for edge in numbers)
    return train[:index] + [element] + train[index + 1:]


def all_pass(train, rays):
    """Return whether all rays pass a train."""
    return all(exit_ray(train, single) is not None for single in rays)


def shiftable(train):
    """Return the indexes of the lenses and stops of a train."""
    return [index for index, element in enumerate(train) if element[0] in ("lens", "stop")]


class Clearances(unittest.TestCase):
    def check(self, text, rays, *expected):
        with self.subTest(text=text):
            found = clearances(parse_train(text), [ray(*single) for single in rays])
            self.assertEqual(found, [(edge, pair(number)) for edge, number in expected])

    def test_told_clearances(self):
        self.check("stop from -1 to 5", [(0, 0)], ((0, "lower"), 1), ((0, "upper"), 5))
        self.check("stop from -1 to 5", [(0, 0), (3, 1), (1, 1)], ((0, "lower"), 1), ((0, "upper"), 2))
        self.check("gap 2; stop to 5; lens 1; gap 1; stop from 0", [(1, 1)], ((1, "upper"), 2), ((4, "lower"), 1))
        self.check("stop from 1/2 to 2/3", [(Fraction(4, 7), 9)],
                   ((0, "lower"), Fraction(1, 14)), ((0, "upper"), Fraction(2, 21)))

    def test_negative_ones_of_rays_that_are_blocked(self):
        self.check("stop from 1 to 2; gap 1; stop to 3", [(0, 2)],
                   ((0, "lower"), -1), ((0, "upper"), 2), ((2, "upper"), 1))
        self.check("stop from 1 to 2; gap 1; stop from 3 to 4", [(0, 2), (7, 0)],
                   ((0, "lower"), -1), ((0, "upper"), -5), ((2, "lower"), -1), ((2, "upper"), -3))

    def test_rays_on_edges(self):
        self.check("stop from 1 to 1", [(1, 5)], ((0, "lower"), 0), ((0, "upper"), 0))

    def test_without_edges(self):
        for text in ["", "gap 1; lens 2", "stop; gap 1; stop"]:
            self.check(text, [(1, 1)])

    def test_no_rays(self):
        for text in ["", "stop", "stop from 1", "gap 1; stop to 3"]:
            with self.assertRaises(NoRays):
                clearances(parse_train(text), [])

    def test_wide_numbers(self):
        train = [("gap", (HUGE, 1)), ("stop", (1, WIDE), (HUGE, WIDE))]
        found = clearances(train, [((1, HUGE), (WIDE, 1)), ((0, 1), (1, WIDE))])
        lower = min(Fraction(1, HUGE) + HUGE * WIDE, Fraction(HUGE, WIDE)) - Fraction(1, WIDE)
        upper = Fraction(HUGE, WIDE) - max(Fraction(1, HUGE) + HUGE * WIDE, Fraction(HUGE, WIDE))
        self.assertEqual(found, [((1, "lower"), pair(lower)), ((1, "upper"), pair(upper))])

    def test_as_reckoned_ray_by_ray(self):
        for seed, train in enumerate(MANY):
            rays = some_rays(seed, 1 + seed % 4)
            self.assertEqual(clearances(train, rays), told_clearances(train, rays))

    def test_not_negative_exactly_if_all_rays_pass(self):
        passing = 0
        for seed, train in enumerate(MANY):
            rays = some_rays(seed, 1 + seed % 3)
            expected = all_pass(train, rays)
            self.assertEqual(all(number[0] >= 0 for _, number in clearances(train, rays)), expected)
            passing += expected
        self.assertGreater(passing, 20)


class Effects(unittest.TestCase):
    def check(self, text, index, height, slope):
        with self.subTest(text=text, index=index):
            self.assertEqual(decenter_effect(parse_train(text), index), ray(height, slope))

    def test_lenses(self):
        self.check("lens 2", 0, 0, 2)
        self.check("lens 2 at -5", 0, 0, 2)
        self.check("lens 2; gap 3", 0, 6, 2)
        self.check("gap 7; lens -1/2; prism 3; gap 4; afocal 2", 1, -4, Fraction(-1, 4))
        self.check("lens 2; gap 1; lens 3; gap 1", 0, -2, -4)
        self.check("lens 2; gap 1; lens 3; gap 1", 2, 3, 3)
        self.check("lens 0; gap 1", 0, 0, 0)

    def test_stops(self):
        self.check("stop from -1 to 1; gap 3; lens 1", 0, 0, 0)
        self.check("gap 3; stop", 1, 0, 0)

    def test_as_reckoned_from_a_ray(self):
        for seed, train in enumerate(MANY):
            for index in shiftable(train):
                single, = some_rays(seed, 1)
                before = behind(train, single)
                for shift in (Fraction(1), Fraction(-5, 3)):
                    after = behind(moved(train, index, shift), single)
                    expected = tuple(pair((exact(new) - exact(old)) / shift) for new, old in zip(after, before))
                    self.assertEqual(decenter_effect(train, index), expected)


class Ranges(unittest.TestCase):
    def check(self, text, index, rays, expected):
        with self.subTest(text=text, index=index):
            wanted = expected and tuple(None if bound is None else pair(bound) for bound in expected)
            found = decenter_range(parse_train(text), index, [ray(*single) for single in rays])
            self.assertEqual(found, wanted)

    def test_stops(self):
        self.check("stop from -1 to 5", 0, [(0, 0)], (-5, 1))
        self.check("stop from -1 to 5", 0, [(0, 0), (4, 0)], (-1, 1))
        self.check("stop from -1 to 5", 0, [(7, 0)], (2, 8))
        self.check("stop to 5", 0, [(7, 0)], (2, None))
        self.check("stop from 5", 0, [(7, 0)], (None, 2))
        self.check("stop", 0, [(7, 0)], (None, None))
        self.check("stop from 0 to 1", 0, [(0, 0), (1, 0)], (0, 0))
        self.check("stop from 0 to 1", 0, [(0, 0), (Fraction(5, 4), 0)], None)
        self.check("stop from -1 to 5; gap 1; stop to 3", 0, [(0, 3)], (-5, 1))
        self.check("stop from -1 to 5; gap 1; stop to 3", 0, [(0, 4)], None)
        self.check("stop from -1 to 5; gap 1; stop to 3", 2, [(0, 4)], (1, None))
        self.check("stop from 1 to 5; gap 1; stop to 3", 2, [(0, 4)], None)

    def test_lenses(self):
        self.check("lens 1; gap 1; stop from -1 to 3", 0, [(0, 0)], (-1, 3))
        self.check("lens -1; gap 1; stop from -1 to 3", 0, [(0, 0)], (-3, 1))
        self.check("lens 1; gap 2; stop from -1 to 3", 0, [(0, 0)], (Fraction(-1, 2), Fraction(3, 2)))
        self.check("lens 1; gap 2; stop from -1 to 3; gap 1; stop to 1", 0, [(0, 0)],
                   (Fraction(-1, 2), Fraction(1, 3)))
        self.check("lens 1; gap 1; stop from -1 to 1", 0, [(0, 1), (0, -1)], (0, 0))
        self.check("lens 1; gap 1; stop from -1 to 1", 0, [(0, 1), (0, -2)], None)
        self.check("lens 1; gap 1; stop to 1", 0, [(0, 5)], (None, -4))
        self.check("lens 1; gap 1; lens 1; gap 1; lens 1; gap 1; stop from -1 to 1", 0, [(0, 0)], (None, None))
        self.check("lens 1; gap 1; lens 3; gap 1; stop from -1 to 2", 0, [(0, 0)], (-2, 1))

    def test_edges_that_the_shift_does_not_reach(self):
        self.check("stop from -1 to 1; lens 1", 1, [(0, 9)], (None, None))
        self.check("stop from -1 to 1; lens 1", 1, [(1, 9)], (None, None))
        self.check("stop from -1 to 1; lens 1", 1, [(2, 9)], None)
        self.check("lens 0; gap 1; stop to 1", 0, [(0, 1)], (None, None))
        self.check("lens 0; gap 1; stop to 1", 0, [(0, 2)], None)
        self.check("lens 3; stop from 1 to 2; gap 1", 0, [(2, 7)], (None, None))
        self.check("lens 3; stop from 1 to 2; gap 1", 0, [(0, 7)], None)

    def test_without_rays_or_edges(self):
        self.check("stop from -1 to 5", 0, [], (None, None))
        self.check("lens 1; gap 1; stop from 2 to 2", 0, [], (None, None))
        self.check("stop; lens 1; gap 1", 1, [(1, 1)], (None, None))
        self.check("stop; lens 1; gap 1", 0, [(1, 1)], (None, None))
        self.check("stop; lens 1; gap 1", 1, [], (None, None))

    def test_just_at_the_bounds_and_beyond(self):
        kinds = set()
        tiny = Fraction(1, 10 ** 9)
        for seed, train in enumerate(MANY):
            rays = some_rays(seed, 1 + seed % 3)
            for index in shiftable(train):
                found = decenter_range(train, index, rays)
                kinds.add(found if found is None else tuple(bound is None for bound in found))
                if found is None:
                    for shift in (0, 1, -1, 3, -4, Fraction(1, 2)):
                        self.assertFalse(all_pass(moved(train, index, Fraction(shift)), rays))
                    continue
                low, high = [None if bound is None else exact(bound) for bound in found]
                for bound, side in [(low, -1), (high, 1)]:
                    if bound is not None:
                        self.assertTrue(all_pass(moved(train, index, bound), rays))
                        self.assertFalse(all_pass(moved(train, index, bound + side * tiny), rays))
                    elif low is None and high is None:
                        self.assertTrue(all_pass(moved(train, index, Fraction(side * 1000)), rays))
        self.assertEqual(len(kinds), 5)


class Wrong(unittest.TestCase):
    def test_indexes_that_there_are_not(self):
        for function in (decenter_effect, lambda train, index: decenter_range(train, index, []),
                         lambda train, index: decenter_range(train, index, [ray(0, 0)])):
            for text, index in [("", 0), ("", -1), ("lens 1", 1), ("lens 1", -1), ("gap 1; lens 1", -1),
                                ("lens 1; stop", 17), ("gap 1", 5), ("stop", -2)]:
                with self.subTest(text=text, index=index), self.assertRaises(NoSuchElement) as caught:
                    function(parse_train(text), index)
                self.assertEqual(caught.exception.index, index)

    def test_what_cannot_be_shifted(self):
        for function in (decenter_effect, lambda train, index: decenter_range(train, index, []),
                         lambda train, index: decenter_range(train, index, [ray(0, 0)])):
            for index, element in enumerate(FIXED):
                train = [("stop", (0, 1), (0, 1))] + FIXED
                with self.subTest(element), self.assertRaises(CannotShift) as caught:
                    function(train, index + 1)
                self.assertEqual(caught.exception.index, index + 1)


class Values(unittest.TestCase):
    def test_nothing_passed_in_is_changed(self):
        for seed, train in enumerate(MANY[:80]):
            rays = some_rays(seed, 2)
            before = copy.deepcopy((train, rays))
            clearances(train, rays)
            for index in shiftable(train):
                decenter_effect(train, index)
                decenter_range(train, index, rays)
            self.assertEqual((train, rays), before)

    def test_the_form_of_what_is_handed_out(self):
        for seed, train in enumerate(MANY[:80]):
            rays = some_rays(seed, 2)
            found = clearances(train, rays)
            self.assertIsInstance(found, list)
            numbers = [number for _, number in found]
            for index in shiftable(train):
                numbers += list(decenter_effect(train, index)) + list(decenter_range(train, index, rays) or ())
            self.assertTrue(all(is_fraction(number) for number in numbers if number is not None))


if __name__ == "__main__":
    unittest.main()
