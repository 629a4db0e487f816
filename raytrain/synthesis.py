"""Trains that are made for a map, or for a map and a region."""

from raytrain.equivalence import canonical_half_planes
from raytrain.maps import IDENTITY, compose_maps, element_map, invert_map
from raytrain.order import cross
from raytrain.rationals import ONE, ZERO, divide, fraction, multiply, negative, subtract
from raytrain.regions import region_kind


def train_for_map(transfer):
    """Return the train without stops that has a map."""
    if transfer[0] == ZERO:
        lens = ("lens", ONE, ZERO)
        rest = compose_maps(invert_map(element_map(lens)), transfer)
        return [lens] + train_for_upright_map(rest)
    return train_for_upright_map(transfer)


def train_for_upright_map(transfer):
    """Return the train without stops that has a map whose a is not 0."""
    a, b, c, _, e, f = transfer
    turning = [("gap", divide(b, a)), ("afocal", a), ("lens", negative(divide(c, a)), ZERO)]
    lifting = [("prism", e), ("gap", ONE), ("prism", negative(e)), ("gap", negative(ONE))]
    return without_idle(turning + ([] if e == ZERO else lifting) + [("prism", f)])


def without_idle(train):
    """Return a train without stops, without those of its elements that do nothing."""
    return [element for element in train if element_map(element) != IDENTITY]


def train_for_region(transfer, half_planes):
    """Return the train that passes exactly the rays of a region, and has a map."""
    train = []
    for group in groups_of(half_planes):
        train.extend(train_for_group(group))
    return train + train_for_map(transfer)


def groups_of(half_planes):
    """Return the canonical half-planes of a region in lists of one or two, those with opposite directions together."""
    ordered = canonical_half_planes(half_planes)
    if region_kind(half_planes) == "empty":
        # One stop for both would have its lower edge above its upper one.
        return [[half_plane] for half_plane in ordered]
    groups = []
    for half_plane in ordered:
        # Two canonical half-planes never have the same direction: so linearly dependent ones are opposite.
        partners = [group for group in groups if cross(group[0], half_plane) == 0]
        if partners:
            partners[0].append(half_plane)
        else:
            groups.append([half_plane])
    return groups


def train_for_group(group):
    """Return the train that blocks the rays outside of one half-plane, or of two opposite ones, and changes no ray."""
    way = way_to_stop(group[0])
    back = [undoing(element) for element in reversed(way)]
    return way + [stop_for_group(group)] + back


def way_to_stop(half_plane):
    """Return the elements behind which the height of a ray is p * height + q * slope."""
    p, q, _ = half_plane
    if q == 0:
        return without_idle([("afocal", fraction(p))])
    power = subtract(ONE, fraction(p, q))
    return without_idle([("lens", power, ZERO), ("gap", ONE), ("afocal", fraction(q))])


def stop_for_group(group):
    """Return the stop for one half-plane, or for two opposite ones, at which the height is as the first one tells."""
    p, q, r = group[0]
    lower = None
    for u, v, w in group[1:]:
        factor = fraction(-q, v) if u == 0 else fraction(-p, u)
        lower = negative(multiply(fraction(w), factor))
    return ("stop", lower, fraction(r))


def undoing(element):
    """Return the element that undoes a gap, a lens or an afocal element."""
    match element:
        case ("gap", length):
            return ("gap", negative(length))
        case ("lens", power, center):
            return ("lens", negative(power), center)
        case (_, magnification):
            return ("afocal", divide(ONE, magnification))
