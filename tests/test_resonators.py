"""Points [32] to [35], and the heading raytrain/resonators.py of the interface."""

import copy
import random
import unittest
from fractions import Fraction

from raytrain.maps import IDENTITY, apply_map, compose_maps, invert_map, ray_transfer
from raytrain.rays import exit_ray
from raytrain.regions import contains_ray, region_of
from raytrain.resonators import (
    fixed_ray, is_kept, order_of, pass_planes, passes, power_of, settled, stays, trace_of,
)
from raytrain.texts import parse_train
from tests import oracle
from tests.helper import HUGE, WIDE, exact, is_fraction, pair
from tests.oracle import ray
from tests.samples import small_trains

MANY = small_trains(200, 321, 6)
RAYS = [ray(height, slope) for height in (-1, 0, Fraction(1, 2), 2) for slope in (-2, 0, 1, Fraction(1, 3))]
UPWARDS = "prism 1; gap 1; prism -1; gap -1"
TINY = Fraction(1, 10 ** 30)
# The parts behind the stops, by the traces of their maps.
WAYS = {
    "lens 1; gap 1": 1, "lens 2; gap 1": 0, "lens 3; gap 1": -1, "lens 4; gap 1": -2, "lens 5; gap 1": -3,
    "lens 3/2; gap 1": Fraction(1, 2), "lens 4/5; gap 1": Fraction(6, 5), "lens -1/2; gap 1": Fraction(5, 2),
    "lens -1; gap 1": 3, "lens 9/2; gap 1": Fraction(-5, 2), "gap 1": 2, "gap 0": 2, "lens 1": 2,
    "afocal -1": -2, "afocal -1; gap 1": -2, "afocal 2": Fraction(5, 2), "afocal -1/2": Fraction(-5, 2),
}


def a_map(*numbers):
    """Return the map of six numbers of Python's own."""
    return tuple(pair(number) for number in numbers)


def many_ways(train, single, most):
    """Return how many times a ray passes, way by way, at most so many times."""
    times = 0
    while times < most:
        single = exit_ray(train, single)
        if single is None:
            return times
        times += 1
    return times


def told_settled(train, most):
    """Return the least number of passes behind which a train is settled, by the train repeated, or None."""
    for many in range(most + 1):
        half_planes = region_of(train * many)
        if all(oracle.implied(half_planes, half_plane) for half_plane in region_of(train * (many + 1))):
            return many
    return None


class Maps(unittest.TestCase):
    TURNS = {
        1: [IDENTITY],
        2: [a_map(-1, 0, 0, -1, 0, 0), a_map(-1, 0, 0, -1, 3, Fraction(-1, 2))],
        3: [a_map(0, 1, -1, -1, 0, 0), a_map(-1, -1, 1, 0, 5, 7), a_map(2, 7, -1, -3, 0, 1)],
        4: [a_map(0, 1, -1, 0, 0, 0), a_map(0, -2, Fraction(1, 2), 0, 1, 1), a_map(2, 5, -1, -2, 3, 0)],
        6: [a_map(0, 1, -1, 1, 0, 0), a_map(1, -1, 1, 0, -4, 9), a_map(3, 7, -1, -2, 0, 0)],
        None: [a_map(1, 1, 0, 1, 0, 0), a_map(1, 0, 0, 1, 0, 1), a_map(1, 0, 0, 1, TINY, 0), a_map(1, 0, -2, 1, 0, 0),
               a_map(-1, 1, 0, -1, 0, 0), a_map(Fraction(-1, 2), 1, Fraction(-3, 2), 1, 0, 0), a_map(2, 3, 1, 2, 0, 0),
               a_map(2, 0, 0, Fraction(1, 2), 0, 0), a_map(-2, 0, 0, Fraction(-1, 2), 0, 0),
               a_map(0, 1, -1, TINY, 0, 0), a_map(0, 1, -1, 2, 1, 1), a_map(1, TINY, 0, 1, 0, 0)],
    }

    def test_told_traces(self):
        self.assertEqual(trace_of(IDENTITY), (2, 1))
        self.assertEqual(trace_of(a_map(Fraction(1, 2), 7, 0, 2, 5, 6)), (5, 2))
        self.assertEqual(trace_of(a_map(0, 1, -1, 0, 5, 6)), (0, 1))
        self.assertEqual(trace_of(a_map(HUGE, 1, -1, 0, 5, 6)), (HUGE, 1))
        for text, trace in WAYS.items():
            self.assertEqual(trace_of(ray_transfer(parse_train(text))), pair(trace))

    def test_powers(self):
        for transfer in [transfer for turns in self.TURNS.values() for transfer in turns]:
            reckoned = IDENTITY
            for many in range(20):
                self.assertEqual(power_of(transfer, many), reckoned)
                reckoned = compose_maps(reckoned, transfer)

    def test_high_powers(self):
        self.assertEqual(power_of(a_map(1, 1, 0, 1, 0, 1), 10 ** 6), a_map(1, 10 ** 6, 0, 1, 499999500000, 10 ** 6))
        self.assertEqual(power_of(a_map(0, 1, -1, 1, 2, 3), 6 * 10 ** 30), IDENTITY)
        self.assertEqual(power_of(a_map(-1, 0, 0, -1, WIDE, HUGE), 10 ** 30 + 1), a_map(-1, 0, 0, -1, WIDE, HUGE))

    def test_orders(self):
        for order, maps in self.TURNS.items():
            for transfer in maps:
                self.assertEqual(order_of(transfer), order, transfer)

    def test_orders_as_reckoned_map_by_map(self):
        chance = random.Random(322)
        found = set()
        for _ in range(400):
            a, b, e, f = [chance.randint(-3, 3) for _ in range(4)]
            if b == 0:
                continue
            d = chance.randint(-3, 3) - a
            transfer = a_map(a, b, Fraction(a * d - 1, b), d, e, f)
            powers = [power_of(transfer, many) for many in range(1, 13)]
            expected = powers.index(IDENTITY) + 1 if IDENTITY in powers else None
            self.assertEqual(order_of(transfer), expected)
            found.add(expected)
        self.assertEqual(found, {None, 3, 4, 6})

    def test_told_fixed_rays(self):
        self.assertEqual(fixed_ray(a_map(-1, 0, 0, -1, 4, -3)), ray(2, Fraction(-3, 2)))
        self.assertEqual(fixed_ray(a_map(0, 1, -1, 0, 0, 0)), ray(0, 0))
        self.assertEqual(fixed_ray(a_map(0, 1, -1, 0, 2, 4)), ray(3, 1))
        self.assertEqual(fixed_ray(a_map(2, 0, 0, Fraction(1, 2), 1, 1)), ray(-1, 2))

    def test_no_single_fixed_ray(self):
        for transfer in [IDENTITY, a_map(1, 0, 0, 1, 1, 0), a_map(1, 0, 0, 1, 0, 1), a_map(1, 2, 0, 1, 0, 0),
                         a_map(1, 2, 0, 1, 5, 0), a_map(1, 2, 0, 1, 0, 1), a_map(3, 4, -1, -1, 0, 0),
                         a_map(3, 4, -1, -1, 1, 1)]:
            self.assertIsNone(fixed_ray(transfer))

    def test_fixed_rays_do_not_change(self):
        for train in MANY:
            transfer = ray_transfer(train)
            found = fixed_ray(transfer)
            self.assertEqual(found is None, trace_of(transfer) == (2, 1))
            if found is not None:
                self.assertTrue(is_fraction(found[0]) and is_fraction(found[1]))
                self.assertEqual(apply_map(transfer, found), found)
                self.assertEqual(fixed_ray(invert_map(transfer)), found)


class Passes(unittest.TestCase):
    def check(self, text, single, most, expected):
        with self.subTest(text=text, ray=single, most=most):
            self.assertEqual(passes(parse_train(text), ray(*single), most), expected)

    def test_told_numbers(self):
        self.check("stop from -1 to 1; gap 1", (-1, Fraction(1, 2)), 100, 5)
        self.check("stop from -1 to 1; gap 1", (-1, Fraction(1, 2)), 5, 5)
        self.check("stop from -1 to 1; gap 1", (-1, Fraction(1, 2)), 4, 4)
        self.check("stop from -1 to 1; gap 1", (-1, Fraction(1, 2)), 0, 0)
        self.check("gap 1; stop from -1 to 1", (-1, Fraction(1, 2)), 100, 4)
        self.check("stop from -1 to 1; gap 1", (2, 0), 100, 0)
        self.check("stop from -1 to 1; gap 1", (1, 0), 100, 100)
        self.check("stop from -1 to 1; afocal -2", (Fraction(1, 8), 9), 100, 4)

    def test_blocked_within_a_later_pass(self):
        self.check("gap 1; stop to 3; gap 1; stop to 4", (0, 1), 9, 2)
        self.check("gap 1; stop to 3; gap 1; stop to 3", (0, 1), 9, 1)
        self.check("gap 1; stop to 3; gap 1; stop to 2", (0, 1), 9, 1)
        self.check("gap 1; stop to 2; gap 1; stop to 9", (0, 1), 9, 1)

    def test_trains_without_stops(self):
        for text in ["", "gap 1", "stop", "lens -7; gap 3; stop"]:
            for most in (0, 1, 7, 10 ** 9):
                self.check(text, (1, 2), most, most)

    def test_as_reckoned_way_by_way(self):
        for train in MANY:
            for single in RAYS[::5]:
                for most in (0, 1, 3, 12):
                    self.assertEqual(passes(train, single, most), many_ways(train, single, most))


class PassPlanes(unittest.TestCase):
    def test_told_half_planes(self):
        train = parse_train("stop from -1 to 2; gap 1")
        self.assertEqual(pass_planes(train, 0), [])
        self.assertEqual(pass_planes(train, 1), [(-1, 0, 1), (1, 0, 2)])
        self.assertEqual(pass_planes(train, 3),
                         [(-1, 0, 1), (1, 0, 2), (-1, -1, 1), (1, 1, 2), (-1, -2, 1), (1, 2, 2)])
        self.assertEqual(pass_planes(parse_train("gap 1; stop; lens 1"), 4), [])

    def test_the_train_repeated(self):
        for train in MANY:
            for many in range(5):
                self.assertEqual(pass_planes(train, many), region_of(train * many))

    def test_single_rays(self):
        for train in MANY:
            for many in (1, 2, 3):
                half_planes = pass_planes(train, many)
                for single in RAYS[::3]:
                    expected = many_ways(train, single, many) == many
                    self.assertIs(contains_ray(half_planes, single), expected)


class Stays(unittest.TestCase):
    def check(self, text, single, expected):
        with self.subTest(text=text, ray=single):
            self.assertIs(stays(parse_train(text), ray(*single)), expected)

    def test_trains_without_stops(self):
        for text in ["", "gap 1", "stop; gap 1; stop", "lens -5; gap 1"]:
            for single in [(0, 0), (HUGE, 1), (1, -HUGE)]:
                self.check(text, single, True)

    def test_the_trace_2(self):
        self.check("stop from -1 to 1", (1, HUGE), True)
        self.check("stop from -1 to 1", (1 + TINY, 0), False)
        self.check("stop from -1 to 1; gap 1", (1, 0), True)
        self.check("stop from -1 to 1; gap 1", (0, Fraction(1, HUGE)), False)
        self.check("stop from -1; gap 1", (-1, Fraction(1, HUGE)), True)
        self.check("stop from -1; gap 1", (HUGE, -TINY), False)
        self.check("stop from 0; gap 1; prism 1", (15, -5), True)
        self.check("stop from 0; gap 1; prism 1", (15 - TINY, -5), False)
        self.check("stop to 0; gap 1; prism 1", (-HUGE, -HUGE), False)
        self.check("stop from 0; " + UPWARDS, (0, 3), True)
        self.check("stop to 0; " + UPWARDS, (-HUGE, 3), False)
        self.check("stop to 0; prism 1", (0, 3), True)
        self.check("stop to 0; prism 1; gap 1; prism -1; gap -1; gap 1; gap -1; prism 3", (0, 3), False)

    def test_the_trace_minus_2(self):
        self.check("stop from -1 to 1; afocal -1", (1, 5), True)
        self.check("stop from -1 to 2; afocal -1", (2, 5), False)
        self.check("stop from -1 to 2; afocal -1", (1, 5), True)
        self.check("stop from -1 to 2; afocal -1", (-1, 5), True)
        self.check("stop from -1 to 1; afocal -1; gap 1", (1, 0), True)
        self.check("stop from -1 to 1; afocal -1; gap 1", (0, TINY), False)

    def test_rays_that_come_back(self):
        # The heights are h, s, s - h and then the opposite ones.
        self.check("stop from -1 to 1; lens 1; gap 1", (1, 1), True)
        self.check("stop from -1 to 1; lens 1; gap 1", (1, 0), True)
        self.check("stop from -1 to 1; lens 1; gap 1", (1, -TINY), False)
        self.check("stop from -1 to 1; lens 1; gap 1", (-1, TINY), False)
        self.check("stop from -1 to 2; lens 1; gap 1", (1, 1), True)
        self.check("stop from -1 to 2; lens 1; gap 1", (2, 2), False)
        # The heights are h, s - h, -h and h - s.
        self.check("stop from -1 to 1; lens 2; gap 1", (1, 2), True)
        self.check("stop from -1 to 1; lens 2; gap 1", (1, 2 + TINY), False)
        # The heights are h, s - 2 * h and h - s.
        self.check("stop from -1 to 1; lens 3; gap 1", (1, 2), True)
        self.check("stop from -1 to 1; lens 3; gap 1", (1, 1), True)
        self.check("stop from -1 to 1; lens 3; gap 1", (1, 1 - TINY), False)
        self.check("stop to 1; lens 3; gap 1", (1, 1 - TINY), True)
        self.check("stop from -1; lens 3; gap 1", (1, 1 - TINY), False)

    def test_rays_that_come_near_to_an_edge_for_ever(self):
        # The heights come as near as one likes to 5 and -5, and never reach them.
        self.check("stop from -5 to 5; lens 4/5; gap 1", (0, 4), True)
        self.check("stop from -5 to 5; lens 4/5; gap 1", (0, 4 + TINY), False)
        self.check("stop to 5; lens 4/5; gap 1", (0, 4), True)
        self.check("stop to 49999/10000; lens 4/5; gap 1", (0, 4), False)
        # Here they are halved with each way.
        self.check("stop from 0 to 1; lens -1/2; gap 1", (1, -1), True)
        self.check("stop from 0 to 1; lens -1/2; gap 1", (1, -1 - TINY), False)
        self.check("stop from 0 to 1; lens -1/2; gap 1", (1, -1 + TINY), False)
        self.check("stop from 0; lens -1/2; gap 1", (1, -1 + TINY), True)
        self.check("stop from -1/2 to 1; lens 9/2; gap 1", (1, 3), True)
        self.check("stop from -49/100 to 1; lens 9/2; gap 1", (1, 3), False)
        self.check("stop from 1/1000000 to 1; lens -1/2; gap 1", (1, -1), False)
        self.check("stop from 0 to 1; afocal 1/2", (1, 7), True)

    def test_rays_on_edges_for_ever(self):
        self.check("stop from 0 to 0; lens 5; gap 1; stop from 0 to 0", (0, 0), True)
        self.check("stop from 1 to 1; gap 1; stop from 1 to 1", (1, 0), True)
        self.check("stop from -5 to 5; lens 4/5; gap 1", (3, Fraction(22, 5)), True)
        self.check("stop from 1 to 1; lens 7 at 1; gap 2", (1, 0), True)

    def test_blocked_only_after_many_ways(self):
        train = parse_train("stop from -49999/10000 to 5; lens 4/5; gap 1")
        times = many_ways(train, ray(0, 4), 1000)
        self.assertGreater(times, 50)
        self.assertLess(times, 1000)
        self.assertFalse(stays(train, ray(0, 4)))
        self.check("stop from -1000 to 1000; gap 1", (0, Fraction(1, HUGE)), False)
        self.check("stop to 1000000; afocal 2", (Fraction(1, HUGE), 0), False)

    def test_as_reckoned_way_by_way(self):
        found = {}
        for text, trace in WAYS.items():
            for head in ["stop from -2 to 2; ", "stop to 1; gap 1; stop from -3; gap -1; ", "stop from 0; prism 1/2; "]:
                train = parse_train(head + text)
                for single in RAYS:
                    expected = many_ways(train, single, 120) == 120
                    self.assertIs(stays(train, single), expected, (head + text, single))
                    found.setdefault(trace, set()).add(expected)
        self.assertEqual(sum(1 for told in found.values() if len(told) == 2), len(found))

    def test_passing_as_often_as_one_likes(self):
        kinds = set()
        for train in MANY:
            for single in RAYS[::4]:
                expected = many_ways(train, single, 40) == 40
                if stays(train, single):
                    self.assertTrue(expected)
                kinds.add((stays(train, single), expected))
        self.assertLessEqual({(True, True), (False, False)}, kinds)


class Settled(unittest.TestCase):
    def check(self, text, most, expected):
        with self.subTest(text=text, most=most):
            self.assertEqual(settled(parse_train(text), most), expected)

    def test_behind_no_pass(self):
        for text in ["", "gap 1", "stop; lens 1; stop"]:
            for most in (0, 1, 10):
                self.check(text, most, 0)

    def test_behind_one_pass(self):
        for text in ["stop from -1 to 1", "stop from -1 to 1; afocal -1", "stop from -1 to 1; afocal 1/2",
                     "stop from 0; afocal 2", "stop from 1; stop to 0", "stop from 0; " + UPWARDS,
                     "stop from 1; stop to 0; gap 1"]:
            self.check(text, 0, None)
            self.check(text, 1, 1)
            self.check(text, 9, 1)

    def test_behind_several_passes(self):
        self.check("stop from -1 to 2; afocal -1", 1, None)
        self.check("stop from -1 to 2; afocal -1", 2, 2)
        self.check("stop from -1 to 1; lens 1; gap 1", 2, None)
        self.check("stop from -1 to 1; lens 1; gap 1", 3, 3)
        self.check("stop from -1 to 1; lens 1; gap 1", 30, 3)
        self.check("stop from -1 to 2; lens 2; gap 1", 9, 4)
        self.check("stop to 1; lens 1; gap 1", 9, 6)
        self.check("stop to 1; lens 3; gap 1", 9, 3)
        self.check("stop from 0 to 1; afocal -2", 9, 2)

    def test_until_no_ray_is_left(self):
        self.check("stop from 0 to 5/2; " + UPWARDS, 3, None)
        self.check("stop from 0 to 5/2; " + UPWARDS, 9, 4)
        self.check("stop from 0 to 2; " + UPWARDS, 9, 4)

    def test_never(self):
        for text in ["stop from -1 to 1; gap 1", "stop from -1 to 1; afocal 2", "stop from -1 to 2; afocal -2",
                     "stop to 0; " + UPWARDS, "stop from -1 to 1; lens 1/2; gap 1",
                     "stop from 0 to 1; lens -1/2; gap 1"]:
            for most in (0, 1, 20):
                self.check(text, most, None)

    def test_as_reckoned_from_the_train_repeated(self):
        numbers = set()
        for train in MANY:
            found = settled(train, 4)
            self.assertEqual(found, told_settled(train, 4))
            self.assertEqual(settled(train, 1), found if found in (0, 1) else None)
            numbers.add(found)
        self.assertLessEqual({None, 0, 1, 2}, numbers)

    def test_kept(self):
        for text, expected in [("", True), ("gap 1", True), ("stop from -1 to 1", True),
                               ("stop from 0; afocal 2", True),
                               ("stop from -1 to 2; afocal -1", False), ("stop from -1 to 1; gap 1", False),
                               ("stop from 1; stop to 0; gap 1", True), ("stop from -1 to 1; lens 1; gap 1", False)]:
            self.assertIs(is_kept(parse_train(text)), expected, text)
        for train in MANY:
            self.assertIs(is_kept(train), told_settled(train, 1) is not None)

    def test_rays_that_stay(self):
        settling = 0
        for train in MANY:
            found = settled(train, 6)
            if found is not None:
                for single in RAYS:
                    self.assertIs(stays(train, single), many_ways(train, single, found) == found)
                settling += 1
        self.assertGreater(settling, 50)

    def test_many_passes(self):
        self.check("stop from -1 to 1; gap 1; lens 1/3 at 1/2; gap 3/7; stop from -2 to 1", 25, None)


class Values(unittest.TestCase):
    def test_nothing_passed_in_is_changed(self):
        for train in MANY[:60]:
            before = copy.deepcopy(train)
            planes = pass_planes(train, 2)
            passes(train, RAYS[3], 5), stays(train, RAYS[3]), settled(train, 3), is_kept(train)
            self.assertEqual(train, before)
            pass_planes(train, 2).append(None)
            self.assertEqual(pass_planes(train, 2), planes)

    def test_the_form_of_what_is_handed_out(self):
        for train in MANY:
            transfer = ray_transfer(train)
            self.assertTrue(is_fraction(trace_of(transfer)))
            self.assertIsInstance(power_of(transfer, 3), tuple)
            self.assertTrue(all(is_fraction(number) for number in power_of(transfer, 3)))
            self.assertIsInstance(pass_planes(train, 2), list)

    def test_wide_numbers(self):
        train = [("stop", (-HUGE, WIDE), (HUGE, WIDE)), ("lens", (4, 5), (0, 1)), ("gap", (1, 1))]
        edge = Fraction(HUGE, WIDE)
        self.assertTrue(stays(train, ray(0, edge * Fraction(4, 5))))
        self.assertFalse(stays(train, ray(0, edge * Fraction(4, 5) + Fraction(1, HUGE))))
        self.assertEqual(passes(train, ray(edge + Fraction(1, HUGE), 0), 5), 0)
        self.assertEqual(exact(trace_of(a_map(edge, 1, 0, 1 / edge, 0, 0))), edge + 1 / edge)


if __name__ == "__main__":
    unittest.main()
