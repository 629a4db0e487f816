"""What object points send through a train: bundles, pupils, fields of view and widths."""

from raytrain.maps import IDENTITY, compose_maps, element_map
from raytrain.rationals import ONE, ZERO, divide, fraction, negative, nearest_to_zero, sign, subtract
from raytrain.regions import (
    contains_ray, direction_range, half_plane_before, half_planes_of, is_empty, region_of, slopes_at, value_at,
)
from raytrain.shapes import area, corners, width_at


def planes_at(train, distance):
    """Return the tuples (edge, half-plane) of a train for the rays as they are in the object plane at a distance."""
    way = element_map(("gap", distance))
    return [(edge, half_plane_before(way, half_plane)) for edge, half_plane in half_planes_of(train)]


def bundle(train, distance, height):
    """Return the bounds of the slopes with which an object point passes, and the edges that give them, or None."""
    edges = planes_at(train, distance)
    half_planes = [half_plane for _, half_plane in edges]
    lower, upper = slopes_at(half_planes, height)
    if not contains_ray(half_planes, (height, nearest_to_zero(lower, upper))):
        return None
    lower_edge = None if lower is None else first_edge_at(edges, (height, lower), -1)
    upper_edge = None if upper is None else first_edge_at(edges, (height, upper), 1)
    return (lower, upper, lower_edge, upper_edge)


def first_edge_at(edges, ray, side):
    """Return the first edge on whose line a ray lies and that bounds slopes from above (side 1) or below (-1)."""
    for edge, half_plane in edges:
        _, q, r = half_plane
        if q * side > 0 and value_at(half_plane, ray) == fraction(r):
            return edge
    return None


def pupils(train):
    """Return the tuples (index, distance, lower, upper) of the images of all stops in front of a train, in order."""
    found = []
    before = IDENTITY
    for index, element in enumerate(train):
        if element[0] == "stop":
            found.append(pupil_behind(before, index, element))
        before = compose_maps(before, element_map(element))
    return found


def pupil_behind(before, index, stop):
    """Return the pupil of the stop with an index, by the map before it."""
    a, b, _, _, shift, _ = before
    _, lower, upper = stop
    distance = None if a == ZERO else negative(divide(b, a))
    divisor = b if a == ZERO else a
    images = [None if edge is None else divide(subtract(edge, shift), divisor) for edge in (lower, upper)]
    if sign(divisor) < 0:
        images.reverse()
    return (index, distance, images[0], images[1])


def field_of_view(train, distance):
    """Return the range of the heights of the object points at a distance of which a ray passes, or None."""
    return direction_range(region_of(train), ONE, negative(distance))


def bundle_widths(train, distance):
    """Return the tuples (height, width) of the object points at the corners at a distance, or None."""
    half_planes = [half_plane for _, half_plane in planes_at(train, distance)]
    # Slopes that are bounded at one height are bounded, by the same half-planes, at each one.
    if is_empty(half_planes) or None in slopes_at(half_planes, ZERO):
        return None
    heights = []
    for height, _ in corners(half_planes):
        if height not in heights:
            heights.append(height)
    return [(height, width_at(half_planes, height)) for height in heights]


def acceptance_area(train):
    """Return the area of the region of a train, or None if it is infinite."""
    return area(region_of(train))
