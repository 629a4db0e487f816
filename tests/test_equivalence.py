"""Points [21] to [23] and [25], and the heading raytrain/equivalence.py of the interface."""

import copy
import random
import unittest
from fractions import Fraction

from raytrain.equivalence import (
    are_equivalent, canonical_form, canonical_half_planes, minimum_stops, redundant_edges, simplify, without_edge,
)
from raytrain.maps import apply_map, ray_transfer
from raytrain.rays import exit_ray
from raytrain.regions import half_planes_of, region_of
from raytrain.texts import parse_train
from tests import oracle
from tests.helper import HUGE, WIDE, pair
from tests.oracle import ray
from tests.samples import ALL_REGIONS, REGIONS, small_regions, small_trains

MANY = small_regions(400, 61)
TRAINS = small_trains(250, 62)
POINT = "stop from 0 to 0; gap 1; stop from 1 to 1; gap -1"


def same_region(half_planes, others):
    """Return whether two lists of half-planes have the same region, reckoned without the package."""
    return (all(oracle.implied(half_planes, other) for other in others)
            and all(oracle.implied(others, half_plane) for half_plane in half_planes))


def act_alike(train, other):
    """Return whether two trains act alike, by their regions and by the exits of rays of which all others are mixed."""
    half_planes = region_of(train)
    if not same_region(half_planes, region_of(other)):
        return False
    rim = oracle.vertices(oracle.boxed(half_planes, 10 ** 6))
    return all(exit_ray(train, found) == exit_ray(other, found) for found in rim)


class CanonicalHalfPlanes(unittest.TestCase):
    def test_empty(self):
        for half_planes in REGIONS["empty"]:
            self.assertEqual(canonical_half_planes(half_planes), [(1, 0, -1), (-1, 0, 0)])

    def test_points(self):
        self.assertEqual(canonical_half_planes([(-1, 0, -2), (0, -1, 3), (1, 1, -1)]),
                         [(1, 0, 2), (0, 1, -3), (-1, -1, 1)])
        self.assertEqual(canonical_half_planes([(2, 0, 1), (-2, 0, -1), (0, 3, -2), (0, -3, 2)]),
                         [(2, 0, 1), (0, 3, -2), (-6, -6, 1)])
        self.assertEqual(canonical_half_planes([(-1, 0, 0), (0, -1, 0), (1, 1, 0)]),
                         [(1, 0, 0), (0, 1, 0), (-1, -1, 0)])

    def test_lines(self):
        self.assertEqual(canonical_half_planes([(-1, -1, -2), (1, 1, 2), (1, 1, 5)]), [(1, 1, 2), (-1, -1, -2)])
        self.assertEqual(canonical_half_planes([(2, 0, 1), (-2, 0, -1)]), [(2, 0, 1), (-2, 0, -1)])
        self.assertEqual(canonical_half_planes([(-2, 4, 1), (2, -4, -1)]), [(-2, 4, 1), (2, -4, -1)])
        self.assertEqual(canonical_half_planes([(0, -1, 3), (0, 1, -3)]), [(0, 1, -3), (0, -1, 3)])

    def test_half_lines(self):
        self.assertEqual(canonical_half_planes([(1, 0, 0), (-1, 0, 0), (3, 2, 8)]),
                         [(1, 0, 0), (0, 1, 4), (-1, 0, 0)])
        self.assertEqual(canonical_half_planes([(1, 0, 0), (-1, 0, 0), (7, -2, 8)]),
                         [(1, 0, 0), (-1, 0, 0), (0, -1, 4)])
        self.assertEqual(canonical_half_planes([(1, 1, 2), (-1, -1, -2), (1, 0, 5)]),
                         [(1, 1, 2), (-1, -1, -2), (1, -1, 8)])
        self.assertEqual(canonical_half_planes([(1, 1, 2), (-1, -1, -2), (-1, 0, -5)]),
                         [(1, 1, 2), (-1, 1, -8), (-1, -1, -2)])

    def test_segments(self):
        self.assertEqual(canonical_half_planes([(0, 1, 1), (1, 0, 3), (0, -1, -1), (-1, 0, -1), (1, 1, 9)]),
                         [(1, 0, 3), (0, 1, 1), (-1, 0, -1), (0, -1, -1)])
        self.assertEqual(canonical_half_planes([(1, 0, 1), (-1, 0, -1), (1, 1, 2), (1, -1, 5)]),
                         [(1, 0, 1), (0, 1, 1), (-1, 0, -1), (0, -1, 4)])
        self.assertEqual(canonical_half_planes([(2, 4, 1), (-2, -4, -1), (1, 0, 1), (-1, 0, 1)]),
                         [(2, 4, 1), (-8, 4, 11), (-2, -4, -1), (8, -4, 9)])

    def test_areas(self):
        square = [(1, 0, 1), (0, 1, 1), (-1, 0, 0), (0, -1, 0)]
        self.assertEqual(canonical_half_planes(square), square)
        self.assertEqual(canonical_half_planes(square[::-1] + square + [(1, 1, 2), (1, 0, 5), (2, 0, 3)]), square)
        self.assertEqual(canonical_half_planes([]), [])
        self.assertEqual(canonical_half_planes([(0, -1, 2), (0, -1, 5), (0, -2, 1)]), [(0, -2, 1)])
        self.assertEqual(canonical_half_planes([(1, 1, 3), (1, 0, 1), (0, 1, 1)]), [(1, 0, 1), (0, 1, 1)])
        self.assertEqual(canonical_half_planes([(1, 1, 1), (1, 0, 1), (0, 1, 1)]), [(1, 0, 1), (1, 1, 1), (0, 1, 1)])

    def test_all_samples(self):
        kinds = set()
        for half_planes in MANY:
            kinds.add(oracle.kind(half_planes))
            with self.subTest(half_planes=half_planes):
                found = canonical_half_planes(half_planes)
                self.assertIsInstance(found, list)
                self.assertEqual(found, oracle.canonical(half_planes))
                self.assertTrue(same_region(found, half_planes))
        self.assertEqual(kinds, set(REGIONS))

    def test_equal_regions_have_equal_ones(self):
        chance = random.Random(63)
        for half_planes in ALL_REGIONS + MANY:
            found = canonical_half_planes(half_planes)
            looser = [(p, q, r + 2) for p, q, r in half_planes if abs(p) == 1 or abs(q) == 1]
            other = found + half_planes + looser
            chance.shuffle(other)
            with self.subTest(half_planes=half_planes):
                self.assertEqual(canonical_half_planes(found), found)
                self.assertEqual(canonical_half_planes(other), found)

    def test_wide_numbers(self):
        self.assertEqual(canonical_half_planes([(WIDE, 0, HUGE), (-WIDE, 0, -HUGE), (HUGE, 1, 0)]),
                         [(WIDE, 0, HUGE), (0, WIDE, -HUGE * HUGE), (-WIDE, 0, -HUGE)])

    def test_the_list_stays_and_what_is_handed_out_is_new(self):
        for half_planes in ALL_REGIONS:
            kept = copy.deepcopy(half_planes)
            first, second = canonical_half_planes(half_planes), canonical_half_planes(half_planes)
            self.assertEqual(half_planes, kept)
            self.assertIsNot(first, second)
            self.assertIsNot(first, half_planes)


class CanonicalForms(unittest.TestCase):
    def check(self, text, kind, half_planes, exits):
        with self.subTest(text=text):
            self.assertEqual(canonical_form(parse_train(text)), (kind, half_planes, exits))

    def test_told_forms(self):
        zero, one = (0, 1), (1, 1)
        self.check("", "area", [], [((zero, zero),) * 2, ((one, zero),) * 2, ((zero, one),) * 2])
        self.check("gap 2; prism 1", "area", [],
                   [((zero, zero), (zero, one)), ((one, zero), (one, one)), ((zero, one), ((2, 1), (2, 1)))])
        self.check("stop from 1; stop to 0; gap 1", "empty", [(1, 0, -1), (-1, 0, 0)], [])
        self.check(POINT, "point", [(1, 0, 0), (0, 1, 1), (-1, -1, -1)], [((zero, one), (zero, one))])
        self.check(POINT + "; lens 3 at -1", "point", [(1, 0, 0), (0, 1, 1), (-1, -1, -1)],
                   [((zero, one), (zero, (-2, 1)))])

    def test_told_lines(self):
        zero, one = (0, 1), (1, 1)
        self.check("stop from 3 to 3", "line", [(1, 0, 3), (-1, 0, -3)],
                   [(((3, 1), zero),) * 2, (((3, 1), one),) * 2])
        self.check("stop from 1/2 to 1/2; gap 2", "line", [(2, 0, 1), (-2, 0, -1)],
                   [(((1, 2), zero), ((1, 2), zero)), (((1, 2), (2, 1)), ((9, 2), (2, 1)))])
        self.check("gap 1; stop from 2 to 2; prism 1; gap -1", "line", [(1, 1, 2), (-1, -1, -2)],
                   [((one, one), (zero, (2, 1))), ((zero, (2, 1)), ((-1, 1), (3, 1)))])
        self.check("gap -2; stop from 5 to 5; gap 1; stop to 9; gap 1", "halfLine",
                   [(2, 1, 30), (-1, 2, -5), (1, -2, 5)],
                   [((one, (-2, 1)), (one, (-2, 1))), (((-1, 1), (-3, 1)), ((-1, 1), (-3, 1)))])
        self.check("gap -1; stop from 0 to 0; gap 1; stop from 0 to 1", "segment",
                   [(1, 1, 2), (-1, 1, 0), (-1, -1, 0), (1, -1, 0)],
                   [((zero, zero),) * 2, (((-1, 1), (-1, 1)),) * 2])

    def test_exits_are_told_whether_the_rays_pass_or_not(self):
        self.check("stop from 7 to 9; prism 1", "area", [(1, 0, 9), (-1, 0, -7)],
                   [(((0, 1), (0, 1)), ((0, 1), (1, 1))), (((1, 1), (0, 1)), ((1, 1), (1, 1))),
                    (((0, 1), (1, 1)), ((0, 1), (2, 1)))])

    def test_the_form(self):
        kinds = set()
        for train in TRAINS:
            form = canonical_form(train)
            self.assertIsInstance(form, tuple)
            kind, half_planes, exits = form
            kinds.add(kind)
            self.assertIsInstance(half_planes, list)
            self.assertIsInstance(exits, list)
            self.assertEqual(half_planes, canonical_half_planes(region_of(train)))
            many = {"empty": 0, "point": 1, "area": 3}.get(kind, 2)
            self.assertEqual(len(exits), many)
            self.assertEqual(len({found for found, _ in exits}), many)
            for found, behind in exits:
                self.assertEqual(behind, apply_map(ray_transfer(train), found))
                self.assertTrue(kind == "area" or kind in ("line", "halfLine", "segment")
                                or exit_ray(train, found) == behind)
        self.assertGreaterEqual(len(kinds), 5)

    def test_the_rays_on_a_line(self):
        for half_planes in REGIONS["line"] + REGIONS["halfLine"] + REGIONS["segment"]:
            train = [part for half_plane in half_planes for part in train_of(half_plane)]
            _, found, exits = canonical_form(train)
            p, q, r = next(one for one in found if (-one[0], -one[1], -one[2]) in found)
            square = p * p + q * q
            first = (Fraction(p * r, square), Fraction(q * r, square))
            self.assertEqual([told for told, _ in exits], [ray(*first), ray(first[0] - q, first[1] + p)])


def train_of(half_plane):
    """Return a train that passes the rays of a half-plane and changes none of them."""
    p, q, r = half_plane
    if q == 0:
        stop = ("stop", None, pair(r, p)) if p > 0 else ("stop", pair(r, p), None)
        return [stop]
    tilt = ("lens", pair(q - p, q), (0, 1))
    back = ("lens", pair(p - q, q), (0, 1))
    stop = ("stop", None, pair(r, q)) if q > 0 else ("stop", pair(r, q), None)
    return [tilt, ("gap", (1, 1)), stop, ("gap", (-1, 1)), back]


class Equivalent(unittest.TestCase):
    def check(self, one, other, expected):
        with self.subTest(one=one, other=other):
            self.assertIs(are_equivalent(parse_train(one), parse_train(other)), expected)
            self.assertIs(are_equivalent(parse_train(other), parse_train(one)), expected)

    def test_told_trains(self):
        self.check("", "stop", True)
        self.check("gap 1; gap 2", "gap 3", True)
        self.check("gap 1", "gap 2", False)
        self.check("stop to 1", "stop to 1; stop to 2", True)
        self.check("stop to 1", "stop to 2", False)
        self.check("stop to 1", "", False)
        self.check("lens 1 at 1", "lens 1", False)
        self.check("lens 1 at 1", "prism 1; lens 1", True)
        self.check("gap 1; stop to 1", "stop to 1; gap 1", False)
        self.check("prism 1; stop to 1", "stop to 1; prism 1", True)

    def test_no_rays(self):
        self.check("stop from 1; stop to 0", "stop from 5; stop to 4; gap 3; lens 2", True)
        self.check("stop from 1; stop to 0", "stop from 1; stop to 1", False)

    def test_exits_that_differ_only_beside_the_region(self):
        self.check(POINT, POINT + "; lens 1", True)
        self.check(POINT, POINT + "; lens 1 at 1", False)
        self.check("stop from 2 to 2", "stop from 2 to 2; lens 5 at 2", True)
        self.check("stop from 2 to 2", "stop from 2 to 2; lens 5 at 1", False)
        self.check("stop from 2 to 2", "stop from 2 to 2; gap 1", False)
        self.check("stop from 2 to 3", "stop from 2 to 3; lens 5 at 2", False)
        self.check("stop from 2 to 2; gap 1; stop from 0", "lens 7 at 1; stop from 2 to 2; gap 1; stop from 0", False)
        self.check("stop from 2 to 2; gap 1; stop from 0", "stop from 2 to 2; lens 7 at 2; gap 1; stop from 0", True)

    def test_all_pairs_of_some_trains(self):
        trains = TRAINS[:40] + [simplify(train) for train in TRAINS[:20]]
        for one in trains:
            for other in trains:
                self.assertIs(are_equivalent(one, other), act_alike(one, other))

    def test_trains_that_are_written_in_another_way(self):
        for train in TRAINS:
            other = []
            for part in train:
                halves = [(part[0], pair(Fraction(*part[1]) / 2))] * 2 if part[0] in ("gap", "prism") else [part]
                other += halves + [("stop", None, None), ("afocal", (2, 1)), ("afocal", (1, 2))]
            self.assertIs(are_equivalent(train, other), True)

    def test_wide_numbers(self):
        one = [("gap", (HUGE, WIDE)), ("stop", (0, 1), (HUGE, 1))]
        self.assertIs(are_equivalent(one, one + [("prism", (1, HUGE))]), False)
        self.assertIs(are_equivalent(one, one[:1] + [("stop", (0, 1), (HUGE + 1, 1))]), False)
        self.assertIs(are_equivalent(one, one + [("stop", (-1, HUGE), (HUGE * HUGE + 1, HUGE))]), True)


class WithoutEdge(unittest.TestCase):
    def test_told_trains(self):
        train = parse_train("gap 1; stop from 1 to 2; stop to 5")
        self.assertEqual(without_edge(train, (1, "lower")), parse_train("gap 1; stop to 2; stop to 5"))
        self.assertEqual(without_edge(train, (1, "upper")), parse_train("gap 1; stop from 1; stop to 5"))
        self.assertEqual(without_edge(train, (2, "upper")), parse_train("gap 1; stop from 1 to 2; stop"))

    def test_the_other_edges_stay(self):
        for train in TRAINS:
            kept = copy.deepcopy(train)
            edges = half_planes_of(train)
            for edge, half_plane in edges:
                found = without_edge(train, edge)
                self.assertIsInstance(found, list)
                self.assertEqual(half_planes_of(found), [row for row in edges if row != (edge, half_plane)])
                self.assertEqual(ray_transfer(found), ray_transfer(train))
                self.assertEqual(len(found), len(train))
            self.assertEqual(train, kept)


class Redundant(unittest.TestCase):
    def check(self, text, expected):
        with self.subTest(text=text):
            self.assertEqual(redundant_edges(parse_train(text)), expected)

    def test_told_trains(self):
        self.check("", [])
        self.check("stop", [])
        self.check("stop from 0 to 1", [])
        self.check("stop from 0 to 1; stop from -1 to 1/2", [(0, "upper"), (1, "lower")])
        self.check("stop from 0 to 1; lens 2; stop from 0 to 1", [
            (0, "lower"), (0, "upper"), (2, "lower"), (2, "upper")])
        self.check("stop to 1; gap 1; stop to 0; gap 1; stop to 9", [])
        self.check("stop to 1; gap 1; stop to 5; gap 1; stop to 9", [(2, "upper")])
        self.check("stop to 1; gap 1; stop to 4; gap 1; stop to 9", [])
        self.check("stop from 0 to 0; gap 1; stop from 0 to 0; gap 1; stop from 0 to 0",
                   [(index, side) for index in (0, 2, 4) for side in ("lower", "upper")])

    def test_no_rays(self):
        self.check("stop from 1; stop to 0", [])
        self.check("stop from 1; stop to 0; gap 1; stop to 5", [(3, "upper")])
        self.check("stop from 1; stop to 0; stop to -1", [(1, "upper"), (2, "upper")])

    def test_all_samples(self):
        some = 0
        for train in TRAINS:
            expected = []
            for edge, half_plane in half_planes_of(train):
                others = [other for other_edge, other in half_planes_of(train) if other_edge != edge]
                if oracle.implied(others, half_plane):
                    expected.append(edge)
            some += len(expected)
            found = redundant_edges(train)
            self.assertIsInstance(found, list)
            self.assertEqual(found, expected)
            for edge in found:
                self.assertIs(are_equivalent(train, without_edge(train, edge)), True)
        self.assertGreater(some, 50)

    def test_the_train_stays_as_it_was(self):
        for train in TRAINS[:60]:
            kept = copy.deepcopy(train)
            redundant_edges(train)
            simplify(train)
            minimum_stops(train)
            canonical_form(train)
            are_equivalent(train, train)
            self.assertEqual(train, kept)


class Simplified(unittest.TestCase):
    def check(self, text, expected):
        with self.subTest(text=text):
            self.assertEqual(simplify(parse_train(text)), parse_train(expected))

    def test_told_trains(self):
        self.check("", "")
        self.check("stop", "")
        self.check("gap 1; stop; lens 2", "gap 1; lens 2")
        self.check("stop from 0 to 1; stop from 0 to 1", "stop from 0 to 1")
        self.check("stop from 0 to 1; lens 2; stop from 0 to 1", "lens 2; stop from 0 to 1")
        self.check("stop from 0 to 1; stop from -1 to 1/2", "stop from 0; stop to 1/2")
        self.check("stop to 1; gap 1; stop to 5; gap 1; stop to 9", "stop to 1; gap 1; gap 1; stop to 9")
        self.check("stop from 0 to 0; gap 1; stop from 0 to 0; gap 1; stop from 0 to 0",
                   "gap 1; stop from 0 to 0; gap 1; stop from 0 to 0")

    def test_no_rays(self):
        self.check("stop from 1; stop to 0; stop to -1", "stop from 1; stop to -1")
        self.check("gap 1; stop from 1; stop to 0; stop from 2 to 3", "gap 1; stop to 0; stop from 2")

    def test_one_by_one(self):
        for train in TRAINS:
            expected = train
            while redundant_edges(expected):
                expected = without_edge(expected, redundant_edges(expected)[0])
            expected = [part for part in expected if part != ("stop", None, None)]
            found = simplify(train)
            self.assertIsInstance(found, list)
            self.assertIsNot(found, train)
            self.assertEqual(found, expected)
            self.assertTrue(act_alike(found, train))

    def test_a_train_of_16_elements(self):
        train = parse_train("; ".join(["stop from -1 to 1; gap 1"] * 8))
        self.assertEqual(simplify(train), parse_train(
            "stop from -1 to 1; " + "; ".join(["gap 1"] * 7) + "; stop from -1 to 1; gap 1"))


class LeastStops(unittest.TestCase):
    def check(self, text, expected):
        with self.subTest(text=text):
            self.assertEqual(minimum_stops(parse_train(text)), expected)

    def test_told_trains(self):
        self.check("", 0)
        self.check("gap 1; stop; lens 1", 0)
        self.check("stop to 1", 1)
        self.check("stop from 0; stop to 1; stop to 2", 1)
        self.check("stop from 0 to 1; gap 1; stop to 1", 2)
        self.check("stop from 0 to 1; gap 1; stop from 0 to 1; gap 1; stop from 0 to 1", 2)
        self.check("stop from 0 to 2; gap 1; stop from 0 to 1; gap 1; stop from 0 to 2", 3)
        self.check("stop from 0 to 2; gap 1; stop from 0 to 3; gap -1; stop to 1", 2)

    def test_kinds(self):
        self.check("stop from 1; stop to 0", 2)
        self.check(POINT, 2)
        self.check("stop from 1 to 1", 1)
        self.check("stop from 1; stop to 1; stop from 0", 1)
        self.check("stop from 1 to 1; gap 1; stop to 0", 2)
        self.check("stop from 1 to 1; gap 1; stop from -1 to 0", 2)

    def test_all_samples(self):
        for train in TRAINS:
            half_planes = region_of(train)
            kind = oracle.kind(half_planes)
            lines = {Fraction(q, p) if p else None for p, q, _ in oracle.canonical(half_planes)}
            expected = {"line": 1, "area": len(lines)}.get(kind, 2)
            self.assertEqual(minimum_stops(train), expected)


if __name__ == "__main__":
    unittest.main()
