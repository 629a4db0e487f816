"""The order of half-planes in point [21], and the heading raytrain/order.py of the interface."""

import copy
import itertools
import unittest

from raytrain.order import comes_before, cross, dot, in_order, opposite
from tests import oracle
from tests.helper import HUGE, WIDE
from tests.samples import ALL_REGIONS, DIRECTIONS

AROUND = [(1, 0), (2, 1), (1, 1), (1, 2), (0, 1), (-1, 2), (-1, 1), (-2, 1),
          (-1, 0), (-2, -1), (-1, -1), (-1, -2), (0, -1), (1, -2), (1, -1), (2, -1)]
SMALL = [oracle.plane(p, q, r) for p, q in DIRECTIONS if (p, q) != (0, 0) for r in (-3, -1, 0, 1, 2)]
SMALL += [(2, 4, 1), (2, 4, 3), (-3, 0, 1), (-3, 0, 4), (0, -5, 7), (4, -2, -1)]


class Products(unittest.TestCase):
    def test_told_products(self):
        self.assertEqual(cross((2, 3, 9), (5, 7, -9)), -1)
        self.assertEqual(cross((5, 7, -9), (2, 3, 9)), 1)
        self.assertEqual(dot((2, 3, 9), (5, 7, -9)), 31)
        self.assertEqual(cross((1, 0, 0), (0, 1, 0)), 1)
        self.assertEqual(cross((2, -4, 1), (-1, 2, 1)), 0)
        self.assertEqual(dot((2, -4, 1), (-1, 2, 1)), -10)
        self.assertEqual(cross((HUGE, 1, 0), (1, WIDE, 0)), HUGE * WIDE - 1)
        self.assertEqual(dot((HUGE, 1, 0), (WIDE, 1, 0)), HUGE * WIDE + 1)

    def test_all_small_ones(self):
        for (p, q, r), (u, v, w) in itertools.product(SMALL[::3], repeat=2):
            self.assertEqual(cross((p, q, r), (u, v, w)), p * v - q * u)
            self.assertEqual(dot((p, q, r), (u, v, w)), p * u + q * v)


class Opposites(unittest.TestCase):
    def test_told_ones(self):
        self.assertEqual(opposite((1, -2, 3)), (-1, 2, -3))
        self.assertEqual(opposite((0, 1, 0)), (0, -1, 0))
        self.assertEqual(opposite((-HUGE, 0, -WIDE)), (HUGE, 0, WIDE))

    def test_twice(self):
        for half_plane in SMALL:
            self.assertEqual(opposite(opposite(half_plane)), half_plane)


class ComesBefore(unittest.TestCase):
    def test_counterclockwise_from_the_heights(self):
        around = [(p, q, 0) for p, q in AROUND]
        for one, other in itertools.product(range(len(around)), repeat=2):
            for r in (-5, 0, 5):
                first, second = around[one], around[other][:2] + (r,)
                if one != other:
                    with self.subTest(first=first, second=second):
                        self.assertIs(comes_before(first, second), one < other)
                        self.assertIs(comes_before(second, first), other < one)

    def test_the_same_direction(self):
        for p, q in AROUND:
            self.assertIs(comes_before((p, q, 1), (p, q, 2)), True)
            self.assertIs(comes_before((p, q, 2), (p, q, 1)), False)
            self.assertIs(comes_before((p, q, -2), (p, q, -1)), True)
            self.assertIs(comes_before((p, q, 1), (p, q, 1)), False)

    def test_the_same_direction_with_other_lengths(self):
        self.assertIs(comes_before((2, 0, 3), (1, 0, 2)), True)
        self.assertIs(comes_before((1, 0, 2), (2, 0, 3)), False)
        self.assertIs(comes_before((1, 0, 1), (2, 0, 3)), True)
        self.assertIs(comes_before((2, 0, 3), (1, 0, 1)), False)
        self.assertIs(comes_before((-3, 6, -4), (-1, 2, -1)), True)
        self.assertIs(comes_before((-1, 2, -1), (-3, 6, -4)), False)
        self.assertIs(comes_before((0, -2, -1), (0, -1, 0)), True)
        self.assertIs(comes_before((HUGE, HUGE, 1), (1, 1, 0)), False)
        self.assertIs(comes_before((1, 1, 0), (HUGE, HUGE, 1)), True)
        self.assertIs(comes_before((1, -1, -1), (HUGE, -HUGE, 1 - HUGE)), True)

    def test_opposite_directions(self):
        for p, q in AROUND[:8]:
            for r in (-7, 0, 7):
                self.assertIs(comes_before((p, q, r), (-p, -q, -r)), True)
                self.assertIs(comes_before((-p, -q, -r), (p, q, r)), False)

    def test_directions_that_are_close_together(self):
        self.assertIs(comes_before((HUGE, 1, 0), (HUGE, 2, 0)), True)
        self.assertIs(comes_before((HUGE, 2, 0), (HUGE, 1, 0)), False)
        self.assertIs(comes_before((1, 0, 5), (HUGE, 1, -5)), True)
        self.assertIs(comes_before((HUGE, -1, -5), (1, 0, 5)), False)
        self.assertIs(comes_before((-HUGE, 1, 0), (-HUGE, -1, 0)), True)

    def test_all_small_ones(self):
        for one, other in itertools.product(SMALL, repeat=2):
            expected = oracle.place_in_order(one) < oracle.place_in_order(other)
            self.assertIs(comes_before(one, other), expected)


class InOrder(unittest.TestCase):
    def test_told_lists(self):
        self.assertEqual(in_order([]), [])
        self.assertEqual(in_order([(0, -1, 0), (1, 0, 5), (-1, 0, 2), (1, 0, 4), (0, 1, 0)]),
                         [(1, 0, 4), (1, 0, 5), (0, 1, 0), (-1, 0, 2), (0, -1, 0)])
        self.assertEqual(in_order([(1, 0, 2), (2, 0, 3), (1, 0, 1)]), [(1, 0, 1), (2, 0, 3), (1, 0, 2)])

    def test_the_different_ones(self):
        self.assertEqual(in_order([(1, 0, 1), (0, 1, 1), (1, 0, 1), (1, 0, 1), (0, 1, 1)]), [(1, 0, 1), (0, 1, 1)])
        self.assertEqual(in_order([(1, 0, 1), (2, 0, 1)]), [(2, 0, 1), (1, 0, 1)])

    def test_all_orders(self):
        kept = [(1, 0, -1), (3, 0, 1), (1, 1, 0), (-1, 0, 3), (-1, 0, 4)]
        for half_planes in itertools.permutations(kept):
            self.assertEqual(in_order(list(half_planes)), kept)

    def test_all_small_ones(self):
        self.assertEqual(in_order(SMALL[::-1]), sorted(set(SMALL), key=oracle.place_in_order))
        self.assertEqual(in_order(SMALL[::3] + SMALL), sorted(set(SMALL), key=oracle.place_in_order))

    def test_the_list_stays_and_what_is_handed_out_is_new(self):
        for half_planes in ALL_REGIONS:
            kept = copy.deepcopy(half_planes)
            found = in_order(half_planes)
            self.assertEqual(half_planes, kept)
            again = in_order(found)
            self.assertIsNot(again, found)
            self.assertEqual(again, found)
            self.assertEqual(set(found), set(half_planes))


if __name__ == "__main__":
    unittest.main()
