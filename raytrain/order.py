"""The order of half-planes: counterclockwise from (1, 0), and with the same direction from the inner line outwards."""

from raytrain.regions import determinant, product
from raytrain.sorting import sorted_once


def cross(one, other):
    """Return p * v - q * u for the half-planes (p, q, r) and (u, v, w)."""
    return determinant(one, other)


def dot(one, other):
    """Return p * u + q * v for the half-planes (p, q, r) and (u, v, w)."""
    return product(one, other)


def opposite(half_plane):
    """Return the half-plane (-p, -q, -r) of a half-plane (p, q, r)."""
    p, q, r = half_plane
    return (-p, -q, -r)


def is_in_lower_half(half_plane):
    """Return whether the direction is at least half a turn away from (1, 0), counterclockwise."""
    p, q, _ = half_plane
    return q < 0 or (q == 0 and p < 0)


def comes_before(one, other):
    """Return whether one half-plane comes before another one in order."""
    if is_in_lower_half(one) != is_in_lower_half(other):
        return is_in_lower_half(other)
    turn = cross(one, other)
    if turn != 0:
        return turn > 0
    # Of vectors with the same direction, the sums of the absolute numbers are in the ratio of the lengths.
    length = abs(one[0]) + abs(one[1])
    other_length = abs(other[0]) + abs(other[1])
    return one[2] * other_length < other[2] * length


def in_order(half_planes):
    """Return the list of the different half-planes in order."""
    return sorted_once(half_planes, comes_before)
