"""Regions and trains that several test files go through."""

import random

from tests.helper import HUGE, WIDE, pair
from tests.oracle import plane

# By their kinds, in many ways: doubled half-planes, opposite ones, such with a direction in common, such that
# only touch.
REGIONS = {
    "area": [
        [],
        [(1, 0, 1)],
        [(1, 0, 1), (1, 0, 1)],
        [(0, -1, 2), (0, -1, 5), (0, -2, 1)],
        [(1, 0, 1), (-1, 0, 0)],
        [(1, 1, 2), (-1, -1, -1), (1, 1, 2)],
        [(1, 0, 3), (0, 1, 3)],
        [(2, 0, 1), (0, -3, 1), (1, 0, 5), (0, -1, 7)],
        [(1, 0, 1), (-1, 0, 0), (0, 1, 1), (0, -1, 0)],
        [(-1, 0, 0), (0, -1, 0), (1, 1, 1)],
        [(-1, 0, -5), (0, -1, -7), (2, 3, 40)],
        [(1, 2, 3), (-3, 1, 2), (1, -4, 5), (-1, 0, 1), (5, 2, 11)],
        [(1, 0, 0), (-1, 0, 1), (0, -1, 0)],
        [(WIDE, 1, HUGE), (-WIDE, 1, HUGE), (0, -1, WIDE)],
        [(-HUGE, 0, -1), (0, -HUGE, -1), (HUGE, HUGE, 3)],
    ],
    "line": [
        [(1, 1, 2), (-1, -1, -2)],
        [(1, 0, 0), (-1, 0, 0)],
        [(0, 1, -3), (0, -1, 3), (0, 1, -3), (0, -1, 3)],
        [(2, 0, 1), (1, 0, 1), (-2, 0, -1), (-1, 0, 7)],
        [(-2, 4, 1), (2, -4, -1)],
        [(WIDE, HUGE, 1), (-WIDE, -HUGE, -1)],
    ],
    "halfLine": [
        [(1, 0, 0), (-1, 0, 0), (0, 1, 4)],
        [(1, 1, 2), (-1, -1, -2), (1, 0, 5)],
        [(1, 1, 2), (-1, -1, -2), (-1, 0, -5), (-1, 1, -1), (1, 1, 3)],
        [(0, 1, 0), (1, 3, -2), (0, -1, 0), (0, 1, 0)],
        [(0, 3, 1), (0, -3, -1), (-WIDE, HUGE, 0)],
    ],
    "segment": [
        [(1, 0, 0), (-1, 0, 0), (0, 1, 4), (0, -1, 1)],
        [(1, 1, 2), (-1, -1, -2), (1, 0, 5), (0, 1, 5)],
        [(0, 1, 1), (1, 0, 3), (0, -1, -1), (-1, 0, -1), (1, 1, 9), (1, 0, 3)],
        [(1, 0, 1), (-1, 0, 0), (0, 1, 1), (0, -1, 0), (-1, 0, -1)],
        [(-1, 0, 0), (0, -1, 0), (1, 1, 1), (-1, -1, -1)],
        [(3, 5, 7), (-3, -5, -7), (WIDE, 0, HUGE), (0, WIDE, HUGE)],
    ],
    "point": [
        [(1, 0, 0), (-1, 0, 0), (0, 1, 4), (0, -1, -4)],
        [(-1, 0, 0), (0, -1, 0), (1, 1, 0)],
        [(-1, 0, -2), (0, -1, 3), (1, 1, -1), (1, 1, -1)],
        [(1, 0, 1), (-1, 0, 0), (0, 1, 1), (0, -1, 0), (-1, -1, -2)],
        [(1, 2, 3), (-1, -2, -3), (2, -1, 1), (-2, 1, -1), (1, 0, 1)],
        [(1, 1, 2), (-1, -1, -2), (1, 0, 1), (0, 1, 1)],
        [(WIDE, 0, HUGE), (-WIDE, 0, -HUGE), (0, 1, 1), (0, -1, -1)],
    ],
    "empty": [
        [(1, 0, 0), (-1, 0, -1)],
        [(1, 0, 1), (0, 1, 1), (-2, 0, -3)],
        [(-1, 0, 0), (0, -1, 0), (1, 1, -1)],
        [(0, 1, 5), (-1, 0, 0), (1, 0, 7), (0, -1, 0), (1, 1, -1)],
        [(1, 2, 3), (-1, -2, -3), (1, 0, 0), (0, 1, 0)],
        [(1, 0, 1), (-1, 0, 0), (0, 1, 1), (0, -1, 0), (-1, -1, -3)],
        [(1, 0, 0), (-1, 0, 0), (0, 1, 0), (0, -1, 0), (-1, 1, -1)],
        [(HUGE, 0, 1), (-WIDE, 0, -1)],
        [(-HUGE, 0, -1), (0, -HUGE, -1), (HUGE, HUGE, 1)],
    ],
}
ALL_REGIONS = [half_planes for regions in REGIONS.values() for half_planes in regions]
WITH_RAYS = [half_planes for kind, regions in REGIONS.items() if kind != "empty" for half_planes in regions]
DIRECTIONS = [(p, q) for p in range(-2, 3) for q in range(-2, 3)]


def small_region(chance, most):
    """Return half-planes with small numbers; many of them are opposite ones, or touch."""
    found = []
    for _ in range(chance.randint(0, most)):
        if found and chance.random() < 0.3:
            p, q, r = chance.choice(found)
            found.append((-p, -q, -r))
        else:
            p, q = chance.choice([direction for direction in DIRECTIONS if direction != (0, 0)])
            found.append(plane(p, q, chance.randint(-3, 3)))
    return found


def small_regions(many, seed, most=7):
    """Return so many lists of half-planes with small numbers, always the same ones for a seed."""
    chance = random.Random(seed)
    return [small_region(chance, most) for _ in range(many)]


def small_number(chance):
    """Return a small fraction."""
    return pair(chance.randint(-3, 3), chance.choice([1, 1, 1, 2, 3]))


def small_element(chance):
    """Return an element with small numbers, every second time a stop."""
    kind = chance.choice(["gap", "lens", "prism", "afocal", "stop", "stop", "stop", "stop"])
    if kind == "lens":
        return (kind, small_number(chance), small_number(chance))
    if kind == "afocal":
        return (kind, pair(chance.choice([-2, -1, 1, 2, 3]), chance.choice([1, 2])))
    if kind != "stop":
        return (kind, small_number(chance))
    lower, upper = sorted([chance.randint(-2, 3), chance.randint(-2, 3)])
    edges = [None if chance.random() < 0.25 else pair(edge) for edge in (lower, upper)]
    return (kind, edges[0], edges[1])


def small_trains(many, seed, most=7):
    """Return so many trains with small numbers."""
    chance = random.Random(seed)
    return [[small_element(chance) for _ in range(chance.randint(0, most))] for _ in range(many)]
