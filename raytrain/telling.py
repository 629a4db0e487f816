"""The ray that tells two trains apart."""

from raytrain.maps import ray_transfer
from raytrain.rationals import ONE, ZERO, add, fraction, greatest_of, is_less, negative, subtract
from raytrain.regions import direction_range, is_empty, make_half_plane, region_of, sample_ray


def distinguishing_ray(train, other):
    """Return the ray that tells two trains apart, or None if they act alike."""
    half_planes = region_of(train)
    other_planes = region_of(other)
    ray = ray_left_out(half_planes, other_planes)
    if ray is None:
        ray = ray_left_out(other_planes, half_planes)
    if ray is None and not is_empty(half_planes):
        ray = ray_with_other_exit(half_planes, ray_transfer(train), ray_transfer(other))
    return ray


def sample_on_line(half_planes, p, q, value):
    """Return the sample ray of the rays of a region with p * height + q * slope = value."""
    below = make_half_plane(p, q, value)
    above = make_half_plane(negative(p), negative(q), negative(value))
    return sample_ray(half_planes + [below, above])


def ray_left_out(half_planes, others):
    """Return a ray of a region that one of the others does not contain, or None."""
    if is_empty(half_planes):
        return None
    for half_plane in others:
        p, q, r = [fraction(number) for number in half_plane]
        lower, upper = direction_range(half_planes, p, q)
        if upper is None:
            return sample_on_line(half_planes, p, q, greatest_of([add(r, ONE), lower]))
        if is_less(r, upper):
            return sample_on_line(half_planes, p, q, upper)
    return None


def ray_with_other_exit(half_planes, transfer, other_transfer):
    """Return a ray of a region with rays of which two maps make different rays, or None."""
    a, b, c, d, e, f = [subtract(one, other) for one, other in zip(transfer, other_transfer)]
    ray = ray_with_difference(half_planes, a, b, e)
    return ray_with_difference(half_planes, c, d, f) if ray is None else ray


def ray_with_difference(half_planes, p, q, constant):
    """Return a ray of a region with rays at which p * height + q * slope + constant is not 0, or None."""
    if p == ZERO and q == ZERO:
        return None if constant == ZERO else sample_ray(half_planes)
    lower, upper = direction_range(half_planes, p, q)
    least = None if lower is None else add(lower, constant)
    greatest = None if upper is None else add(upper, constant)
    difference = telling_difference(least, greatest)
    if difference is None:
        return None
    return sample_on_line(half_planes, p, q, subtract(difference, constant))


def telling_difference(least, greatest):
    """Return the difference between two bounds, None for no bound, that [24] chooses, or None if both are 0."""
    if greatest is None:
        return greatest_of([ONE, least])
    if greatest != ZERO:
        return greatest
    if least is None:
        return negative(ONE)
    return None if least == ZERO else least
