"""Whether trains act alike: canonical forms, edges that are not needed, and the least number of stops."""

from raytrain.maps import apply_map, ray_transfer
from raytrain.order import comes_before, cross, in_order, opposite
from raytrain.papers import is_implied
from raytrain.rationals import ONE, ZERO, add, fraction, negative
from raytrain.regions import (
    half_planes_of, line_of, make_half_plane, nearest_ray, ray_along, region_kind, region_of, sample_ray, span_on_line,
    value_at,
)


def canonical_half_planes(half_planes):
    """Return the canonical half-planes of a region, in order."""
    kind = region_kind(half_planes)
    if kind == "empty":
        return [(1, 0, -1), (-1, 0, 0)]
    if kind == "point":
        return half_planes_of_point(sample_ray(half_planes))
    if kind == "area":
        return needed_half_planes(half_planes)
    return half_planes_on_line(half_planes)


def half_planes_of_point(ray):
    """Return the canonical half-planes of the region of one ray."""
    height, slope = ray
    return [
        make_half_plane(ONE, ZERO, height),
        make_half_plane(ZERO, ONE, slope),
        make_half_plane(negative(ONE), negative(ONE), negative(add(height, slope))),
    ]


def needed_half_planes(half_planes):
    """Return the different half-planes, in order, that the other different ones do not imply."""
    different = in_order(half_planes)
    needed = []
    for half_plane in different:
        others = [other for other in different if other != half_plane]
        if not is_implied(others, half_plane):
            needed.append(half_plane)
    return needed


def half_planes_on_line(half_planes):
    """Return the canonical half-planes, in order, of a region that lies on one line and has several rays."""
    line = first_line_of(half_planes)
    p, q, _ = line
    lower, upper = span_on_line(line, half_planes)
    found = [line, opposite(line)]
    if lower is not None:
        found.append(half_plane_up_to((q, -p), ray_along(line, lower)))
    if upper is not None:
        found.append(half_plane_up_to((-q, p), ray_along(line, upper)))
    return in_order(found)


def first_line_of(half_planes):
    """Return that one of the two half-planes on whose line a region lies that comes first in order."""
    line = line_of(half_planes)
    return line if comes_before(line, opposite(line)) else opposite(line)


def half_plane_up_to(direction, ray):
    """Return the half-plane with a direction of two integers that has a ray on its line."""
    p, q = direction
    return make_half_plane(fraction(p), fraction(q), value_at((p, q, 0), ray))


def canonical_form(train):
    """Return the canonical form of a train: its kind, its canonical half-planes and some exits."""
    return form_of(canonical_half_planes(region_of(train)), ray_transfer(train))


def form_of(half_planes, transfer):
    """Return the canonical form of the trains that have a map, and a region with these canonical half-planes."""
    kind = region_kind(half_planes)
    exits = [(ray, apply_map(transfer, ray)) for ray in telling_rays(kind, half_planes)]
    return (kind, half_planes, exits)


def telling_rays(kind, half_planes):
    """Return rays such that maps that agree on them agree on all rays of the region, which has this kind."""
    if kind == "empty":
        return []
    if kind == "point":
        return [sample_ray(half_planes)]
    if kind == "area":
        return [(ZERO, ZERO), (ONE, ZERO), (ZERO, ONE)]
    line = first_line_of(half_planes)
    return [nearest_ray(line), ray_along(line, ONE)]


def are_equivalent(train, other):
    """Return whether two trains act alike."""
    return canonical_form(train) == canonical_form(other)


def without_edge(train, edge):
    """Return the train without an edge: None is in its place."""
    index, side = edge
    _, lower, upper = train[index]
    stop = ("stop", None, upper) if side == "lower" else ("stop", lower, None)
    return train[:index] + [stop] + train[index + 1:]


def is_redundant(train, edge):
    """Return whether an edge alone could be taken away so that the train acts as before on every ray."""
    # Without an edge the map is the same, so only the region could differ.
    return is_implied(region_of(without_edge(train, edge)), dict(half_planes_of(train))[edge])


def redundant_edges(train):
    """Return the redundant edges of a train, in order."""
    return [edge for edge, _ in half_planes_of(train) if is_redundant(train, edge)]


def simplify(train):
    """Return the train without redundant edges, taken away one by one, and without stops that have no edges."""
    kept = list(train)
    # One way through the edges is enough: an edge that was needed beside others is needed beside fewer.
    for edge, _ in half_planes_of(train):
        if is_redundant(kept, edge):
            kept = without_edge(kept, edge)
    return [element for element in kept if element != ("stop", None, None)]


def minimum_stops(train):
    """Return the least number of stops of all trains that act like a train."""
    half_planes = region_of(train)
    kind = region_kind(half_planes)
    if kind == "line":
        return 1
    if kind != "area":
        return 2
    return count_of_lines(canonical_half_planes(half_planes))


def count_of_lines(half_planes):
    """Return the number of lines through (0, 0) on which the directions of half-planes lie."""
    seen = []
    for half_plane in half_planes:
        if all([cross(half_plane, other) != 0 for other in seen]):
            seen.append(half_plane)
    return len(seen)
