"""How far rays are from the edges of stops, and how far an element may be shifted."""

from raytrain.errors import CannotShift, NoRays, NoSuchElement
from raytrain.maps import IDENTITY, apply_map, compose_maps, element_map, ray_transfer
from raytrain.rationals import ONE, ZERO, add, divide, greatest_of, least_of, negative, sign, span_between, subtract


def clearances(train, rays):
    """Return the tuples (edge, least distance of the rays from it, measured inwards) for all edges, in order."""
    if not rays:
        raise NoRays()
    found = []
    before = IDENTITY
    for index, element in enumerate(train):
        if element[0] == "stop":
            heights = [apply_map(before, ray)[0] for ray in rays]
            found.extend(clearances_at(index, element, heights))
        before = compose_maps(before, element_map(element))
    return found


def clearances_at(index, stop, heights):
    """Return the tuples (edge, clearance) of the stop with an index, for rays with these heights there."""
    _, lower, upper = stop
    found = []
    if lower is not None:
        found.append(((index, "lower"), subtract(least_of(heights), lower)))
    if upper is not None:
        found.append(((index, "upper"), subtract(upper, greatest_of(heights))))
    return found


def shifted(train, index):
    """Return the train with the element with an index shifted upwards by 1."""
    if not 0 <= index < len(train):
        raise NoSuchElement(index)
    match train[index]:
        case ("lens", power, center):
            element = ("lens", power, add(center, ONE))
        case ("stop", lower, upper):
            element = ("stop", raised(lower), raised(upper))
        case _:
            raise CannotShift(index)
    return train[:index] + [element] + train[index + 1:]


def raised(edge):
    """Return the height of an edge shifted upwards by 1, None for no edge."""
    return None if edge is None else add(edge, ONE)


def decenter_effect(train, index):
    """Return by how much the height and the slope behind a train grow if an element is shifted upwards by 1."""
    # A shift changes the maps by the same ray for all rays: so one ray tells the effect.
    height, slope = apply_map(ray_transfer(train), (ZERO, ZERO))
    new_height, new_slope = apply_map(ray_transfer(shifted(train, index)), (ZERO, ZERO))
    return (subtract(new_height, height), subtract(new_slope, slope))


def clearance_growths(train, index):
    """Return by how much the clearance at each edge grows, for any rays, if an element is shifted upwards by 1."""
    rays = [(ZERO, ZERO)]
    moved = clearances(shifted(train, index), rays)
    return [subtract(behind, ahead) for (_, behind), (_, ahead) in zip(moved, clearances(train, rays))]


def decenter_range(train, index, rays):
    """Return the least and the greatest shift of an element with which all rays pass, or None if there is none."""
    growths = clearance_growths(train, index)
    if not rays:
        return (None, None)
    lowers = []
    uppers = []
    for (_, clearance), growth in zip(clearances(train, rays), growths):
        if growth == ZERO:
            if sign(clearance) < 0:
                return None
        elif sign(growth) > 0:
            lowers.append(negative(divide(clearance, growth)))
        else:
            uppers.append(negative(divide(clearance, growth)))
    return span_between(lowers, uppers)
