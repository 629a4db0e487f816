"""Points [29] and [30], and the heading raytrain/synthesis.py of the interface."""

import copy
import itertools
import random
import unittest
from fractions import Fraction

from raytrain.equivalence import minimum_stops
from raytrain.maps import IDENTITY, ray_transfer
from raytrain.rays import exit_ray, gone_through
from raytrain.regions import region_of
from raytrain.synthesis import train_for_map, train_for_region
from raytrain.texts import format_train
from tests import oracle
from tests.helper import HUGE, WIDE, exact, is_fraction, pair
from tests.samples import ALL_REGIONS, REGIONS, small_regions, small_trains

NUMBERS = [Fraction(0), Fraction(1), Fraction(-1), Fraction(2), Fraction(-1, 3), Fraction(5, 2)]
IDLE = [("gap", (0, 1)), ("afocal", (1, 1)), ("prism", (0, 1)), ("lens", (0, 1), (0, 1))]
MANY = small_regions(250, 301, 6)


def a_map(*numbers):
    """Return the map of six numbers of Python's own."""
    return tuple(pair(number) for number in numbers)


def upright_maps():
    """Return the maps with a not 0, with small numbers, with e and f in all combinations."""
    return [a_map(a, b, c, (1 + b * c) / a, e, f)
            for a, b, c in itertools.product(NUMBERS[1:], NUMBERS, NUMBERS)
            for e, f in itertools.product(NUMBERS[:3], repeat=2)]


def turning_maps():
    """Return maps with a equal to 0, with e and f in all combinations."""
    return [a_map(0, b, -1 / b, d, e, f) for b, d in itertools.product(NUMBERS[1:], NUMBERS)
            for e, f in itertools.product(NUMBERS[:3], repeat=2)]


def told_for_map(transfer):
    """Return the train of [29], idle elements left out, reckoned with numbers of Python's own."""
    a, b, c, d, e, f = [exact(number) for number in transfer]
    train = []
    if a == 0:
        train.append(("lens", (1, 1), (0, 1)))
        a, c = a + b, c + d
    train += [("gap", pair(b / a)), ("afocal", pair(a)), ("lens", pair(-c / a), (0, 1))]
    if e != 0:
        train += [("prism", pair(e)), ("gap", (1, 1)), ("prism", pair(-e)), ("gap", (-1, 1))]
    train.append(("prism", pair(f)))
    return [element for element in train if element not in IDLE]


def told_groups(half_planes):
    """Return the groups of [30]."""
    ordered = oracle.canonical(half_planes)
    if oracle.kind(half_planes) == "empty":
        return [[half_plane] for half_plane in ordered]
    groups = {}
    for p, q, r in ordered:
        line = oracle.plane(p, q, 0)
        opposite = oracle.plane(-p, -q, 0)
        groups.setdefault(opposite if opposite in groups else line, []).append((p, q, r))
    return list(groups.values())


def told_for_region(transfer, half_planes):
    """Return the train of [30], reckoned with numbers of Python's own."""
    train = []
    for (p, q, r), *others in told_groups(half_planes):
        there = [("afocal", pair(p))]
        back = [("afocal", pair(1, p))] if p else []
        if q != 0:
            power = 1 - Fraction(p, q)
            there = [("lens", pair(power), (0, 1)), ("gap", (1, 1)), ("afocal", pair(q))]
            back = [("afocal", pair(1, q)), ("gap", (-1, 1)), ("lens", pair(-power), (0, 1))]
        lower = None
        for u, v, w in others:
            lower = pair(-w * (-Fraction(p, u) if u else -Fraction(q, v)))
        train += there + [("stop", lower, pair(r))] + back
    return [element for element in train if element not in IDLE] + told_for_map(transfer)


class TrainsForMaps(unittest.TestCase):
    def check(self, numbers, text):
        with self.subTest(numbers):
            self.assertEqual(format_train(train_for_map(a_map(*numbers))), text)

    def test_nothing_to_do(self):
        self.assertEqual(train_for_map(IDENTITY), [])

    def test_told_trains(self):
        self.check((1, 2, 0, 1, 0, 0), "gap 2")
        self.check((1, 0, -3, 1, 0, 0), "lens 3")
        self.check((2, 0, 0, Fraction(1, 2), 0, 0), "afocal 2")
        self.check((2, 1, 3, 2, 0, 0), "gap 1/2; afocal 2; lens -3/2")
        self.check((-1, 0, 0, -1, 0, 0), "afocal -1")

    def test_shifts(self):
        self.check((1, 0, 0, 1, 0, 5), "prism 5")
        self.check((1, 0, 0, 1, 5, 0), "prism 5; gap 1; prism -5; gap -1")
        self.check((1, 0, 0, 1, 5, Fraction(-1, 2)), "prism 5; gap 1; prism -5; gap -1; prism -1/2")
        self.check((1, 0, 0, 1, -5, 5), "prism -5; gap 1; prism 5; gap -1; prism 5")
        self.check((2, 1, 3, 2, -1, 4),
                   "gap 1/2; afocal 2; lens -3/2; prism -1; gap 1; prism 1; gap -1; prism 4")

    def test_where_a_is_zero(self):
        self.check((0, 1, -1, 0, 0, 0), "lens 1; gap 1; lens 1")
        self.check((0, 1, -1, 1, 0, 0), "lens 1; gap 1")
        self.check((0, 2, Fraction(-1, 2), 3, 0, 0), "lens 1; gap 1; afocal 2; lens -5/4")
        self.check((0, -1, 1, 0, 2, 3), "lens 1; gap 1; afocal -1; lens 1; prism 2; gap 1; prism -2; gap -1; prism 3")
        self.check((0, 1, -1, 1, 0, 3), "lens 1; gap 1; prism 3")
        self.check((0, 1, -1, 1, 3, 0), "lens 1; gap 1; prism 3; gap 1; prism -3; gap -1")

    def test_all_small_ones(self):
        for transfer in upright_maps() + turning_maps():
            train = train_for_map(transfer)
            self.assertEqual(train, told_for_map(transfer))
            self.assertEqual(ray_transfer(train), transfer)

    def test_wide_numbers(self):
        transfer = ray_transfer([("gap", (HUGE, WIDE)), ("lens", (WIDE, 7), (HUGE, 3)), ("prism", (1, HUGE))])
        train = train_for_map(transfer)
        self.assertEqual(train, told_for_map(transfer))
        self.assertEqual(ray_transfer(train), transfer)


class TrainsForRegions(unittest.TestCase):
    def check(self, half_planes, text, transfer=IDENTITY):
        with self.subTest(half_planes):
            self.assertEqual(format_train(train_for_region(transfer, half_planes)), text)

    def test_all_rays(self):
        self.check([], "")
        self.check([], "gap 3", a_map(1, 3, 0, 1, 0, 0))

    def test_single_half_planes(self):
        self.check([(1, 0, 3)], "stop to 3")
        self.check([(-1, 0, 3)], "afocal -1; stop to 3; afocal -1")
        self.check([(2, 0, 1)], "afocal 2; stop to 1; afocal 1/2")
        self.check([(0, 1, 1)], "lens 1; gap 1; stop to 1; gap -1; lens -1")
        self.check([(1, 1, 2)], "gap 1; stop to 2; gap -1")
        self.check([(1, 2, -2)], "lens 1/2; gap 1; afocal 2; stop to -2; afocal 1/2; gap -1; lens -1/2")
        self.check([(2, -3, 1)], "lens 5/3; gap 1; afocal -3; stop to 1; afocal -1/3; gap -1; lens -5/3")

    def test_opposite_pairs(self):
        self.check([(-1, 0, 0), (1, 0, 3)], "stop from 0 to 3")
        self.check([(-2, 0, 1), (1, 0, 1)], "stop from -1/2 to 1")
        self.check([(-1, 0, 1), (2, 0, 1)], "afocal 2; stop from -2 to 1; afocal 1/2")
        self.check([(0, -3, 1), (0, 2, 5)],
                   "lens 1; gap 1; afocal 2; stop from -2/3 to 5; afocal 1/2; gap -1; lens -1")
        self.check([(3, 3, 1), (-2, -2, 7)], "gap 1; afocal 3; stop from -21/2 to 1; afocal 1/3; gap -1")

    def test_the_order_of_groups(self):
        self.check([(0, -1, 1), (-1, 0, 0), (0, 1, 1), (1, 0, 1)],
                   "stop from 0 to 1; lens 1; gap 1; stop from -1 to 1; gap -1; lens -1")
        self.check([(-1, 0, 2), (0, 1, 1)],
                   "lens 1; gap 1; stop to 1; gap -1; lens -1; afocal -1; stop to 2; afocal -1")

    def test_a_region_without_rays(self):
        expected = "stop to -1; afocal -1; stop to 0; afocal -1"
        for half_planes in REGIONS["empty"]:
            self.check(half_planes, expected)
        self.check(REGIONS["empty"][0], expected + "; prism 2", a_map(1, 0, 0, 1, 0, 2))

    def test_a_point(self):
        self.check([(1, 0, 1), (-1, 0, -1), (0, 1, 2), (0, -1, -2)],
                   "stop to 1; lens 1; gap 1; stop to 2; gap -1; lens -1;"
                   " gap 1; afocal -1; stop to -3; afocal -1; gap -1")

    def test_lines_and_parts_of_them(self):
        self.check([(1, 0, 0), (-1, 0, 0)], "stop from 0 to 0")
        self.check([(1, 1, 2), (-1, -1, -2)], "gap 1; stop from 2 to 2; gap -1")
        self.check([(1, 0, 0), (-1, 0, 0), (0, 1, 4)], "stop from 0 to 0; lens 1; gap 1; stop to 4; gap -1; lens -1")
        self.check([(1, 0, 0), (-1, 0, 0), (0, 1, 4), (0, -1, 3)],
                   "stop from 0 to 0; lens 1; gap 1; stop from -3 to 4; gap -1; lens -1")

    def test_implied_half_planes_are_left_out(self):
        self.check([(1, 0, 3), (1, 0, 1), (2, 0, 9)], "stop to 1")

    def test_as_reckoned_from_the_words(self):
        chance = random.Random(302)
        maps = upright_maps() + turning_maps()
        for half_planes in MANY + [found for found in ALL_REGIONS if max(map(max, found), default=0) < 100]:
            transfer = chance.choice(maps)
            self.assertEqual(train_for_region(transfer, half_planes), told_for_region(transfer, half_planes))

    def test_it_passes_the_region_and_has_the_map(self):
        maps = upright_maps()[::37] + turning_maps()[::13]
        chance = random.Random(303)
        for half_planes in ALL_REGIONS + MANY[:100]:
            transfer = chance.choice(maps)
            train = train_for_region(transfer, half_planes)
            self.assertEqual(ray_transfer(train), transfer)
            passed = region_of(train)
            self.assertEqual(oracle.has_rays(passed), oracle.has_rays(half_planes))
            self.assertTrue(all(oracle.implied(passed, half_plane) for half_plane in half_planes))
            self.assertTrue(all(oracle.implied(half_planes, half_plane) for half_plane in passed))

    def test_single_rays(self):
        for half_planes in ALL_REGIONS:
            train = train_for_region(IDENTITY, half_planes)
            for height, slope in itertools.product([-3, 0, 1, 2, 5], [-4, -1, 0, 1, 7]):
                found = oracle.ray(height, slope)
                self.assertEqual(exit_ray(train, found), found if oracle.inside(half_planes, found) else None)

    def test_the_number_of_stops_is_the_least_one(self):
        for train in small_trains(150, 304, 6):
            half_planes = region_of(train)
            made = train_for_region(ray_transfer(train), half_planes)
            if oracle.kind(half_planes) == "area":
                stops = [element for element in made if element[0] == "stop"]
                self.assertEqual(len(stops), minimum_stops(train))


class Values(unittest.TestCase):
    def test_nothing_passed_in_is_changed(self):
        for half_planes in ALL_REGIONS:
            before = copy.deepcopy(half_planes)
            first = train_for_region(IDENTITY, half_planes)
            self.assertEqual(half_planes, before)
            train_for_region(IDENTITY, half_planes).append(None)
            self.assertEqual(train_for_region(IDENTITY, half_planes), first)

    def test_the_form_of_what_is_handed_out(self):
        transfer = a_map(0, 2, Fraction(-1, 2), 3, Fraction(1, 3), 4)
        for half_planes in ALL_REGIONS:
            train = train_for_region(transfer, half_planes)
            self.assertIsInstance(train, list)
            for element in train:
                self.assertIsInstance(element, tuple)
                self.assertTrue(all(is_fraction(number) for number in element[1:] if number is not None))
                self.assertNotIn(element, IDLE)
                gone_through(element, oracle.ray(0, 0))


if __name__ == "__main__":
    unittest.main()
