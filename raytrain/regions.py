"""Half-planes of rays, (p, q, r) for p * height + q * slope <= r, and the regions that several of them leave."""

from itertools import combinations

from raytrain.errors import NoDirection
from raytrain.maps import IDENTITY, compose_maps, element_map, invert_map
from raytrain.rationals import (
    ONE, ZERO, add, common_divisor, divide, fraction, greatest_of, is_at_most, least_of, multiply, nearest_to_zero,
    negative, sign, span_between, subtract, whole_numbers,
)


def make_half_plane(p, q, r):
    """Return the half-plane of the rays with p * height + q * slope <= r, for fractions."""
    if p == ZERO and q == ZERO:
        raise NoDirection()
    whole = whole_numbers([p, q, r])
    divisor = common_divisor(common_divisor(whole[0], whole[1]), whole[2])
    return (whole[0] // divisor, whole[1] // divisor, whole[2] // divisor)


def half_planes_of(train):
    """Return the list of the tuples (edge, half-plane) of a train, in the order of its edges."""
    found = []
    before = IDENTITY
    for index, element in enumerate(train):
        if element[0] == "stop":
            found.extend(edges_behind(before, index, element))
        before = compose_maps(before, element_map(element))
    return found


def region_of(train):
    """Return the half-planes of the edges of a train, in order."""
    return [half_plane for _, half_plane in half_planes_of(train)]


def edges_behind(before, index, stop):
    """Return the tuples (edge, half-plane at the entrance) of the stop with an index, by the map before it."""
    _, lower, upper = stop
    found = []
    if lower is not None:
        half_plane = make_half_plane(negative(ONE), ZERO, negative(lower))
        found.append(((index, "lower"), half_plane_before(before, half_plane)))
    if upper is not None:
        half_plane = make_half_plane(ONE, ZERO, upper)
        found.append(((index, "upper"), half_plane_before(before, half_plane)))
    return found


def half_plane_before(map_used, half_plane):
    """Return the half-plane of the rays of which a map makes rays of the given one."""
    a, b, c, d, e, f = map_used
    room = subtract(fraction(half_plane[2]), value_at(half_plane, (e, f)))
    return make_half_plane(value_at(half_plane, (a, c)), value_at(half_plane, (b, d)), room)


def map_half_planes(map_used, half_planes):
    """Return the half-planes of what a map makes of the rays of the given ones, in the same order."""
    inverse = invert_map(map_used)
    return [half_plane_before(inverse, half_plane) for half_plane in half_planes]


def value_at(half_plane, ray):
    """Return p * height + q * slope."""
    p, q, _ = half_plane
    height, slope = ray
    return fraction(p * height[0] * slope[1] + q * slope[0] * height[1], height[1] * slope[1])


def contains_ray(half_planes, ray):
    """Return whether all of the half-planes contain a ray."""
    for half_plane in half_planes:
        if not is_at_most(value_at(half_plane, ray), fraction(half_plane[2])):
            return False
    return True


def determinant(first, second):
    """Return the determinant of the directions of two half-planes."""
    return first[0] * second[1] - first[1] * second[0]


def product(first, second):
    """Return the scalar product of the directions of two half-planes."""
    return first[0] * second[0] + first[1] * second[1]


def nearest_ray(line):
    """Return the ray nearest to (0, 0) on the line p * height + q * slope = r of a half-plane."""
    p, q, r = line
    square = product(line, line)
    return (fraction(p * r, square), fraction(q * r, square))


def ray_along(line, steps):
    """Return the ray that is so many times (-q, p) away from the nearest ray on the line of a half-plane."""
    p, q, _ = line
    height, slope = nearest_ray(line)
    return (add(height, multiply(steps, fraction(-q))), add(slope, multiply(steps, fraction(p))))


def span_on_line(line, half_planes):
    """Return the least and the greatest steps with which ray_along(line, steps) is a ray of the region.

    None stands in place of a bound that there is not; the span is None if no ray of the line is in the region.
    """
    start = nearest_ray(line)
    lowers = []
    uppers = []
    for half_plane in half_planes:
        room = subtract(fraction(half_plane[2]), value_at(half_plane, start))
        growth = determinant(line, half_plane)
        if growth > 0:
            uppers.append(divide(room, fraction(growth)))
        elif growth < 0:
            lowers.append(divide(room, fraction(growth)))
        elif sign(room) < 0:
            return None
    return span_between(lowers, uppers)


def some_ray(half_planes):
    """Return a ray of a region, or None if there is none."""
    ray = (ZERO, ZERO)
    for index, half_plane in enumerate(half_planes):
        if not contains_ray([half_plane], ray):
            # The ray is in the region of the half-planes so far. On the way from it to a ray that is in this
            # one, too, the line of this one is crossed: so it is enough to look there.
            span = span_on_line(half_plane, half_planes[:index])
            if span is None:
                return None
            lower, upper = span
            ray = ray_along(half_plane, nearest_to_zero(lower, upper))
    return ray


def is_empty(half_planes):
    """Return whether the region has no rays."""
    return some_ray(half_planes) is None


def share_of(goal, half_plane):
    """Return the number above 0 by which the direction of a half-plane gives that of the goal, or None."""
    if determinant(goal, half_plane) != 0 or product(goal, half_plane) < 0:
        return None
    return fraction(product(goal, half_plane), product(half_plane, half_plane))


def shares_of(goal, first, second):
    """Return the numbers above 0 by which two linearly independent directions add up to that of the goal, or None."""
    whole = determinant(first, second)
    by_first = determinant(goal, second)
    by_second = determinant(first, goal)
    if by_first * whole <= 0 or by_second * whole <= 0:
        return None
    return (fraction(by_first, whole), fraction(by_second, whole))


def bounds_shown(half_planes, goal):
    """Return the upper bounds of the goal's direction that single half-planes show, and pairs of them."""
    bounds = []
    for half_plane in half_planes:
        share = share_of(goal, half_plane)
        if share is not None:
            bounds.append(multiply(share, fraction(half_plane[2])))
    for first, second in combinations(half_planes, 2):
        shares = shares_of(goal, first, second)
        if shares is not None:
            by_first = multiply(shares[0], fraction(first[2]))
            bounds.append(add(by_first, multiply(shares[1], fraction(second[2]))))
    return bounds


def supremum(half_planes, p, q):
    """Return the least upper bound of p * height + q * slope over a region with rays, or None."""
    if p == ZERO and q == ZERO:
        return ZERO
    scale = p[1] * q[1]
    goal = (p[0] * q[1], q[0] * p[1], 0)
    # The duality of linear programs: the least upper bound over a region with rays is the least one of
    # those that one or two of the half-planes show, as two numbers tell a ray.
    bound = least_of(bounds_shown(half_planes, goal))
    return None if bound is None else divide(bound, fraction(scale))


def infimum(half_planes, p, q):
    """Return the greatest lower bound of p * height + q * slope over a region with rays, or None."""
    bound = supremum(half_planes, negative(p), negative(q))
    return None if bound is None else negative(bound)


def direction_range(half_planes, p, q):
    """Return the bounds of p * height + q * slope over a region, or None if it has no rays."""
    if is_empty(half_planes):
        return None
    return (infimum(half_planes, p, q), supremum(half_planes, p, q))


def half_planes_at(half_planes, ray):
    """Return the half-planes that have a ray of the region on their lines: near the ray, the others do nothing."""
    return [half_plane for half_plane in half_planes if value_at(half_plane, ray) == fraction(half_plane[2])]


def line_of(half_planes):
    """Return the first half-plane on whose line all rays of a region with rays lie, or None."""
    # The region lies on one of these lines exactly if what it is near the ray does.
    touching = half_planes_at(half_planes, some_ray(half_planes))
    for p, q, r in touching:
        if infimum(touching, fraction(p), fraction(q)) == fraction(r):
            return (p, q, r)
    return None


def region_kind(half_planes):
    """Return "empty", "point", "segment", "halfLine", "line" or "area"."""
    if is_empty(half_planes):
        return "empty"
    line = line_of(half_planes)
    if line is None:
        return "area"
    lower, upper = span_on_line(line, half_planes)
    if lower is None and upper is None:
        return "line"
    if lower is None or upper is None:
        return "halfLine"
    return "point" if lower == upper else "segment"


def slopes_at(half_planes, height):
    """Return the bounds of the slopes of the rays with a height in a region with such rays."""
    lowers = []
    uppers = []
    for p, q, r in half_planes:
        if q != 0:
            bound = divide(subtract(fraction(r), multiply(fraction(p), height)), fraction(q))
            if q > 0:
                uppers.append(bound)
            else:
                lowers.append(bound)
    return (greatest_of(lowers), least_of(uppers))


def sample_ray(half_planes):
    """Return the ray with the height nearest to 0 and, of those with this height, the slope nearest to 0, or None."""
    heights = direction_range(half_planes, ONE, ZERO)
    if heights is None:
        return None
    lowest, highest = heights
    height = nearest_to_zero(lowest, highest)
    lower, upper = slopes_at(half_planes, height)
    return (height, nearest_to_zero(lower, upper))
