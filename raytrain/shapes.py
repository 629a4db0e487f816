"""The corners and the area of regions, in the plane of heights and slopes."""

from raytrain.rationals import ONE, ZERO, add, compare, fraction, multiply, subtract
from raytrain.regions import determinant, direction_range, ray_along, region_kind, slopes_at, span_on_line
from raytrain.sorting import sorted_once

HALF = (1, 2)


def meeting(first, second):
    """Return the ray at which the lines of two half-planes meet, or None if their directions are dependent."""
    p, q, r = first
    u, v, w = second
    divisor = determinant(first, second)
    if divisor == 0:
        return None
    return (fraction(r * v - q * w, divisor), fraction(p * w - r * u, divisor))


def corners(half_planes):
    """Return the corners of a region, by ascending heights, those with the same height by ascending slopes."""
    ends = []
    for line in half_planes:
        # The corners on a line are the ends of what the region has of it.
        span = span_on_line(line, half_planes)
        if span is not None:
            ends.extend([ray_along(line, steps) for steps in span if steps is not None])
    return sorted_once(ends, ray_comes_before)


def ray_comes_before(one, other):
    """Return whether a ray has a smaller height than another one, or the same height and a smaller slope."""
    by_height = compare(one[0], other[0])
    return by_height < 0 or (by_height == 0 and compare(one[1], other[1]) < 0)


def is_bounded(half_planes):
    """Return whether the heights and the slopes of a region with rays are bounded."""
    heights = direction_range(half_planes, ONE, ZERO)
    slopes = direction_range(half_planes, ZERO, ONE)
    return None not in heights and None not in slopes


def area(half_planes):
    """Return the area of a region, or None if it is infinite."""
    if region_kind(half_planes) != "area":
        return ZERO
    if not is_bounded(half_planes):
        return None
    total = ZERO
    behind = None
    for height, _ in corners(half_planes):
        width = width_at(half_planes, height)
        if behind is not None:
            # Between two corners, one behind the other by their heights, the region is a trapezoid.
            last_height, last_width = behind
            mean = multiply(add(last_width, width), HALF)
            total = add(total, multiply(mean, subtract(height, last_height)))
        behind = (height, width)
    return total


def width_at(half_planes, height):
    """Return the length of the interval of the slopes at a height where it is bounded."""
    lower, upper = slopes_at(half_planes, height)
    return subtract(upper, lower)
