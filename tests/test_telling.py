"""Point [24], and the heading raytrain/telling.py of the interface."""

import copy
import random
import unittest
from fractions import Fraction

from raytrain.equivalence import are_equivalent, simplify
from raytrain.maps import ray_transfer
from raytrain.rays import exit_ray
from raytrain.regions import region_of
from raytrain.telling import distinguishing_ray
from raytrain.texts import parse_train
from tests import oracle
from tests.helper import HUGE, WIDE, exact, is_fraction, pair
from tests.oracle import plane, ray
from tests.samples import small_element, small_trains

POINT = "stop from 0 to 0; gap 1; stop from 1 to 1; gap -1"


def sample_at(half_planes, p, q, number):
    """Return the sample ray of the rays with p * height + q * slope = number."""
    return oracle.sample(half_planes + [plane(p, q, number), plane(-p, -q, -number)])


def left_out(half_planes, others):
    """Return the ray of the first step of [24], or None."""
    if not oracle.has_rays(half_planes):
        return None
    for p, q, r in others:
        low, high = oracle.bounds(half_planes, p, q)
        if high is None:
            return sample_at(half_planes, p, q, r + 1 if low is None else max(r + 1, low))
        if high > r:
            return sample_at(half_planes, p, q, high)
    return None


def with_difference(half_planes, p, q, constant):
    """Return the ray of the third step of [24], or None."""
    if (p, q) == (0, 0):
        return oracle.sample(half_planes) if constant else None
    low, high = oracle.bounds(half_planes, p, q)
    low = None if low is None else low + constant
    high = None if high is None else high + constant
    if high is None:
        wanted = Fraction(1) if low is None else max(Fraction(1), low)
    elif high == 0:
        wanted = Fraction(-1) if low is None else low
    else:
        wanted = high
    return sample_at(half_planes, p, q, wanted - constant) if wanted else None


def told_ray(train, other):
    """Return the ray of [24], reckoned without the package's regions."""
    half_planes, others = region_of(train), region_of(other)
    found = left_out(half_planes, others) or left_out(others, half_planes)
    if found is None and oracle.has_rays(half_planes):
        a, b, c, d, e, f = [exact(one) - exact(two) for one, two in zip(ray_transfer(train), ray_transfer(other))]
        found = with_difference(half_planes, a, b, e) or with_difference(half_planes, c, d, f)
    return found


def nearly_alike():
    """Return pairs of trains with many stops in common, so that each of the steps is needed for some of them."""
    chance = random.Random(72)
    pairs = []
    for train in small_trains(250, 71, 6):
        place = chance.randint(0, len(train))
        further = small_element(chance)
        pairs.append((train, train[:place] + [further] + train[place:]))
        pairs.append((train, train + [small_element(chance)]))
        pairs.append((train, [part for part in train if part[0] == "stop"]))
        pairs.append((train, simplify(train) + [("lens", pair(chance.randint(-1, 1)), pair(chance.randint(-1, 1)))]))
    return pairs


class ToldRays(unittest.TestCase):
    def check(self, one, other, expected):
        with self.subTest(one=one, other=other):
            found = distinguishing_ray(parse_train(one), parse_train(other))
            self.assertEqual(found, expected and ray(*expected))

    def test_the_other_one_blocks_a_ray_of_the_first_one(self):
        self.check("stop to 5", "stop to 2", (5, 0))
        self.check("stop from 1 to 5; gap 1; stop to 3", "stop to 2", (5, -2))
        self.check("stop from -4 to -3", "stop from -3", (-4, 0))
        self.check("stop to 5", "stop to 5; gap 1; stop to 6; stop to 4; gap -1", (0, 7))
        self.check("stop to 5; gap 1; stop to 6; gap -1", "stop to 7; gap 1; stop to 4; gap -1", (0, 6))

    def test_without_an_upper_bound(self):
        self.check("", "stop to 2", (3, 0))
        self.check("", "stop to -5", (-4, 0))
        self.check("", "stop from 2", (1, 0))
        self.check("stop from 1", "stop to 2", (3, 0))
        self.check("stop from 7", "stop to 2", (7, 0))
        self.check("stop from 3", "stop to 2", (3, 0))
        self.check("stop from 4; gap 1; stop from 5; gap -1", "stop to 2", (4, 1))
        self.check("", "gap 2; stop to 1; gap -2", (0, 1))

    def test_the_first_edge_counts(self):
        self.check("", "stop from 2 to 3", (1, 0))
        self.check("", "stop to 3; stop from 2", (4, 0))
        self.check("stop from 0 to 9", "stop from 2 to 3", (0, 0))
        self.check("stop from 0 to 9", "stop to 3; stop from 2", (9, 0))
        self.check("stop from 2 to 9", "stop from 2 to 3", (9, 0))

    def test_the_trains_exchanged(self):
        self.check("stop to 2", "stop to 5", (5, 0))
        self.check("stop to 2", "", (3, 0))
        self.check("stop from 2 to 3", "", (1, 0))
        self.check("stop to 2; gap 9", "", (3, 0))
        self.check("stop from 1 to 5", "stop from 0 to 4", (5, 0))
        self.check("stop from 0 to 4", "stop from 1 to 5", (0, 0))

    def test_a_train_that_nothing_passes(self):
        self.check("stop from 1; stop to 0", "stop from 4 to 9", (9, 0))
        self.check("stop from 4 to 9", "stop from 1; stop to 0", (9, 0))
        self.check("stop from 1; stop to 0", "", (0, 0))
        self.check("", "stop from 1; stop to 0", (0, 0))
        self.check("stop from 1; stop to 0", "gap 1; stop from 2; stop to 1; prism 1", None)
        self.check("stop from 1; stop to 0", "stop from 1; stop to 0; gap 1; prism 1", None)

    def test_the_same_difference_of_heights_for_all_rays(self):
        self.check("", "prism 1; gap 1; prism -1; gap -1", (0, 0))
        self.check("stop from 2 to 3", "stop from 2 to 3; prism 1; gap 1; prism -1; gap -1", (2, 0))
        self.check("prism 1; gap 1; prism -1; gap -1; stop from 3 to 4", "stop from 2 to 3", (2, 0))

    def test_a_greatest_difference_of_heights(self):
        self.check("stop from 1 to 3; afocal 3", "stop from 1 to 3; afocal 1", (3, 0))
        self.check("stop from 1 to 3; afocal 1", "stop from 1 to 3; afocal 3", (1, 0))
        self.check("stop from -3 to -1; afocal 2", "stop from -3 to -1", (-1, 0))
        self.check("stop to -1; afocal 2", "stop to -1", (-1, 0))

    def test_no_greatest_difference_of_heights(self):
        self.check("gap 1", "", (0, 1))
        self.check("", "gap 1", (0, -1))
        self.check("gap 2", "", (0, Fraction(1, 2)))
        self.check("stop from 2; afocal 2", "stop from 2", (2, 0))
        self.check("stop from 1/2; afocal 2", "stop from 1/2", (1, 0))
        self.check("stop from -5; afocal 2", "stop from -5", (1, 0))

    def test_the_greatest_difference_is_0(self):
        self.check("stop from -3 to 0; afocal 2", "stop from -3 to 0", (-3, 0))
        self.check("stop to 0; afocal 2", "stop to 0", (-1, 0))
        self.check("stop from 0; afocal -1", "stop from 0", (Fraction(1, 2), 0))
        self.check("stop from 0 to 4; afocal 1", "stop from 0 to 4; afocal 3", (4, 0))

    def test_no_difference_of_heights_in_the_region(self):
        self.check("stop from 0 to 0; afocal 2", "stop from 0 to 0", (0, -2))
        self.check("stop from 0 to 0; afocal 2; gap 1; stop from 1 to 1",
                   "stop from 0 to 0; afocal 2; gap 1; stop from 1 to 1; lens 1", (0, 2))

    def test_slopes(self):
        self.check("prism 1", "", (0, 0))
        self.check("stop from 3 to 4", "stop from 3 to 4; prism -1/2", (3, 0))
        self.check("lens 1", "", (-1, 0))
        self.check("", "lens 1", (1, 0))
        self.check("stop from 2 to 3; lens 1", "stop from 2 to 3", (2, 0))
        self.check("stop from 0 to 3; lens 1", "stop from 0 to 3", (3, 0))
        self.check("stop from -3 to 0", "stop from -3 to 0; lens 1", (-3, 0))
        self.check("stop from 0; lens 1", "stop from 0", (1, 0))
        self.check("stop from 2; lens -1", "stop from 2", (2, 0))
        self.check("stop from 2 to 2; lens 1 at 2", "stop from 2 to 2", None)
        self.check("stop from 2 to 2; lens 1 at 1", "stop from 2 to 2", (2, 0))
        self.check("lens 1 at 5", "", (4, 0))

    def test_one_ray(self):
        self.check(POINT, POINT + "; lens 7", None)
        self.check(POINT, POINT + "; lens 7 at 1", (0, 1))
        self.check(POINT, POINT + "; gap 1", (0, 1))
        self.check(POINT, POINT + "; gap 1; lens 1 at 1; gap -1", None)
        self.check(POINT, POINT + "; prism 1", (0, 1))

    def test_trains_that_act_alike(self):
        self.check("", "", None)
        self.check("gap 1; gap 2", "gap 3", None)
        self.check("stop to 1; stop to 2", "stop to 1", None)
        self.check("stop from 0 to 0; gap 1; stop from 0 to 0", "gap 1; stop from 0 to 0; gap -1; stop from 0 to 0",
                   None)


class AllRays(unittest.TestCase):
    def test_nearly_alike_trains(self):
        told = 0
        for one, other in nearly_alike():
            for train, second in ((one, other), (other, one)):
                with self.subTest(train=train, second=second):
                    found = distinguishing_ray(train, second)
                    self.assertEqual(found, told_ray(train, second))
                    self.assertIs(found is None, are_equivalent(train, second))
                    if found is not None:
                        told += 1
                        self.assertIsInstance(found, tuple)
                        self.assertTrue(is_fraction(found[0]) and is_fraction(found[1]))
                        self.assertNotEqual(exit_ray(train, found), exit_ray(second, found))
        self.assertGreater(told, 200)

    def test_any_two_trains(self):
        trains = small_trains(30, 73, 5)
        for train in trains:
            for other in trains:
                self.assertEqual(distinguishing_ray(train, other), told_ray(train, other))

    def test_wide_numbers(self):
        one = [("gap", (HUGE, WIDE)), ("stop", (0, 1), (HUGE, 1))]
        other = one[:1] + [("stop", (0, 1), pair(HUGE * HUGE - 1, HUGE))]
        found = distinguishing_ray(one, other)
        self.assertEqual(found, ((0, 1), (WIDE, 1)))
        self.assertIsNone(exit_ray(other, found))
        self.assertIsNotNone(exit_ray(one, found))

    def test_the_trains_stay_as_they_were(self):
        for train, other in nearly_alike()[:80]:
            kept = copy.deepcopy((train, other))
            distinguishing_ray(train, other)
            self.assertEqual((train, other), kept)


if __name__ == "__main__":
    unittest.main()
