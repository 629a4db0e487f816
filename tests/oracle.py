"""Regions reckoned a second time, without the package: by elimination, and by trying all meetings of lines."""

import itertools
from fractions import Fraction
from math import atan2, gcd, lcm, pi

from tests.helper import exact, pair


def plane(p, q, r):
    """Return the half-plane with p * height + q * slope <= r, for numbers of Python's own."""
    numbers = [Fraction(number) for number in (p, q, r)]
    scale = lcm(*[number.denominator for number in numbers])
    whole = [int(number * scale) for number in numbers]
    return tuple(number // gcd(*whole) for number in whole)


def ray(height, slope):
    """Return a ray of two numbers of Python's own."""
    return (pair(height), pair(slope))


def numbers_of(found):
    """Return the two Fractions of a ray."""
    return (exact(found[0]), exact(found[1]))


def value(half_plane, found):
    """Return p * height + q * slope as a Fraction."""
    height, slope = numbers_of(found)
    return half_plane[0] * height + half_plane[1] * slope


def inside(half_planes, found):
    """Return whether all half-planes contain a ray."""
    return all(value(half_plane, found) <= half_plane[2] for half_plane in half_planes)


def in_new_numbers(half_planes, p, q):
    """Return the inequalities x * z + y * w <= r with z = p * height + q * slope (z = height if p = q = 0)."""
    if p == 0 and q == 0:
        return [(Fraction(a), Fraction(b), Fraction(r)) for a, b, r in half_planes]
    if p == 0:
        return [(Fraction(b) / q, Fraction(a), Fraction(r)) for a, b, r in half_planes]
    return [(Fraction(a) / p, b - a * q / Fraction(p), Fraction(r)) for a, b, r in half_planes]


def without_second(rows):
    """Return the inequalities x * z <= r that are left when w is eliminated."""
    left = [(x, r) for x, y, r in rows if y == 0]
    above = [(x / y, r / y) for x, y, r in rows if y > 0]
    below = [(x / y, r / y) for x, y, r in rows if y < 0]
    return left + [(high[0] - low[0], high[1] - low[1]) for high in above for low in below]


def bounds(half_planes, p, q):
    """Return the range of a direction as Fractions or None, or None for a region without rays."""
    rows = without_second(in_new_numbers(half_planes, p, q))
    if any(x == 0 and r < 0 for x, r in rows):
        return None
    high = min([r / x for x, r in rows if x > 0], default=None)
    low = max([r / x for x, r in rows if x < 0], default=None)
    if high is not None and low is not None and high < low:
        return None
    return (low, high) if (p, q) != (0, 0) else (Fraction(0), Fraction(0))


def as_told(found):
    """Return a range of Fractions as the program tells it."""
    return found and tuple(None if bound is None else pair(bound) for bound in found)


def has_rays(half_planes):
    """Return whether the region has rays."""
    return bounds(half_planes, 1, 0) is not None


def nearest(low, high):
    """Return the number between two bounds that is nearest to 0."""
    if low is not None and low > 0:
        return low
    return high if high is not None and high < 0 else Fraction(0)


def sample(half_planes):
    """Return the sample ray, or None."""
    heights = bounds(half_planes, 1, 0)
    if heights is None:
        return None
    height = nearest(*heights)
    at_height = half_planes + [plane(1, 0, height), plane(-1, 0, -height)]
    return ray(height, nearest(*bounds(at_height, 0, 1)))


def vertices(half_planes):
    """Return the corners, sorted, by trying all meetings."""
    found = set()
    for (p, q, r), (u, v, w) in itertools.combinations(half_planes, 2):
        base = p * v - q * u
        if base != 0:
            meeting = ray(Fraction(r * v - q * w, base), Fraction(p * w - r * u, base))
            if inside(half_planes, meeting):
                found.add(meeting)
    return sorted(found, key=numbers_of)


def implied(half_planes, half_plane):
    """Return whether a half-plane contains all rays of the region."""
    found = bounds(half_planes, half_plane[0], half_plane[1])
    return found is None or (found[1] is not None and found[1] <= half_plane[2])


def boxed(half_planes, size):
    """Return the half-planes together with those of a square around (0, 0)."""
    return half_planes + [(1, 0, size), (-1, 0, size), (0, 1, size), (0, -1, size)]


def kind(half_planes):
    """Return the kind of a region of half-planes with small numbers."""
    if not has_rays(half_planes):
        return "empty"
    size = 10 ** 6
    rim = [numbers_of(found) for found in vertices(boxed(half_planes, size))]
    if len(rim) == 1:
        return "point"
    if len(rim) > 2:
        return "area"
    open_ends = sum(1 for found in rim if size in (abs(found[0]), abs(found[1])))
    return ["segment", "halfLine", "line"][open_ends]


def polygon_area(half_planes):
    """Return the area of a bounded region by the triangles from its first corner."""
    first, *rest = [numbers_of(found) for found in vertices(half_planes)]
    from_first = [(found[0] - first[0], found[1] - first[1]) for found in rest]
    # The first corner has the least height, so the others are in order by their slopes from it.
    upwards = [step for step in from_first if step[0] == 0]
    aside = sorted([step for step in from_first if step[0] != 0], key=lambda step: step[1] / step[0])
    around = aside + upwards
    return sum(abs(one[0] * two[1] - one[1] * two[0]) for one, two in zip(around, around[1:])) / Fraction(2)


def place_in_order(half_plane):
    """Return what sorts half-planes with small numbers: the angle, and r in the measure of the shortest direction."""
    p, q, r = half_plane
    divisor = gcd(p, q)
    angle = atan2(q // divisor, p // divisor)
    return (angle if angle >= 0 else angle + 2 * pi, Fraction(r, divisor))


def canonical_area(half_planes):
    """Return the canonical half-planes of a region of the kind "area", with small numbers."""
    different = sorted(set(half_planes), key=place_in_order)
    return [half_plane for half_plane in different
            if not implied([other for other in different if other != half_plane], half_plane)]


def canonical(half_planes):
    """Return the canonical half-planes of a region of half-planes with small numbers."""
    found = kind(half_planes)
    if found == "empty":
        return [(1, 0, -1), (-1, 0, 0)]
    if found == "area":
        return canonical_area(half_planes)
    height, slope = numbers_of(sample(half_planes))
    if found == "point":
        return [plane(1, 0, height), plane(0, 1, slope), plane(-1, -1, -height - slope)]
    p, q, r = next(plane(p, q, r) for p, q, r in half_planes if bounds(half_planes, p, q) == (r, r))
    low, high = bounds(half_planes, -q, p)
    ends = [] if high is None else [plane(-q, p, high)]
    ends += [] if low is None else [plane(q, -p, -low)]
    return sorted([(p, q, r), (-p, -q, -r)] + ends, key=place_in_order)
