"""Trains that rays go through again and again."""

from raytrain.forever import stays_below
from raytrain.maps import IDENTITY, apply_map, compose_maps, ray_transfer
from raytrain.papers import is_implied
from raytrain.rationals import ONE, ZERO, add, divide, fraction, multiply, subtract
from raytrain.rays import exit_ray
from raytrain.regions import half_plane_before, region_of, value_at

TWO = (2, 1)


def trace_of(transfer):
    """Return the trace a + d of a map."""
    return add(transfer[0], transfer[3])


def power_of(transfer, many):
    """Return the map that applies a map many times, from 0 on."""
    if many == 0:
        return IDENTITY
    half = power_of(transfer, many // 2)
    whole = compose_maps(half, half)
    return compose_maps(whole, transfer) if many % 2 == 1 else whole


def order_of(transfer):
    """Return the least number of times, at least 1, after which a map has changed no ray, or None."""
    for many in (1, 2, 3, 4, 6):
        if power_of(transfer, many) == IDENTITY:
            return many
    return None


def fixed_ray(transfer):
    """Return the ray that a map does not change, if there is exactly one, or None."""
    a, b, c, d, e, f = transfer
    divisor = subtract(TWO, trace_of(transfer))
    if divisor == ZERO:
        return None
    height = add(multiply(subtract(ONE, d), e), multiply(b, f))
    slope = add(multiply(c, e), multiply(subtract(ONE, a), f))
    return (divide(height, divisor), divide(slope, divisor))


def passes(train, ray, most):
    """Return how many times a ray passes a train again and again, at most so many times."""
    if stays(train, ray):
        return most
    behind = exit_ray(train, ray)
    times = 0
    while times < most and behind is not None:
        behind = exit_ray(train, behind)
        times += 1
    return times


def pass_planes(train, many):
    """Return the half-planes of many passes: of the first one, of the second one and so on."""
    transfer = ray_transfer(train)
    before = IDENTITY
    found = []
    for _ in range(many):
        found.extend(planes_of_pass(train, before))
        before = compose_maps(before, transfer)
    return found


def planes_of_pass(train, before):
    """Return the half-planes of a pass, for the rays in front of the first pass, by the map of the passes before."""
    return [half_plane_before(before, half_plane) for half_plane in region_of(train)]


def stays(train, ray):
    """Return whether a ray passes a train again and again for ever."""
    transfer = ray_transfer(train)
    second = apply_map(transfer, ray)
    rays = [ray, second, apply_map(transfer, second)]
    for half_plane in region_of(train):
        values = [subtract(value_at(half_plane, found), fraction(half_plane[2])) for found in rays]
        if not stays_below(values[0], values[1], values[2], trace_of(transfer)):
            return False
    return True


def settled(train, most):
    """Return the least number of passes, from 0 to most, behind which a train is settled, or None."""
    transfer = ray_transfer(train)
    before = IDENTITY
    # The half-planes of the passes so far, without those that the ones before them imply.
    kept = []
    for many in range(most + 1):
        further = [half_plane for half_plane in planes_of_pass(train, before) if not is_implied(kept, half_plane)]
        if not further:
            return many
        kept = kept + further
        before = compose_maps(before, transfer)
    return None


def is_kept(train):
    """Return whether a train is settled behind one pass."""
    return settled(train, 1) is not None
