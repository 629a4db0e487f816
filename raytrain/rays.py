"""Rays, and how a single one goes through the elements of a train."""

from raytrain.rationals import add, divide, is_less, multiply, subtract


def passes_stop(stop, height):
    """Return whether a ray at this height passes a stop; one at the very edge does."""
    _, lower, upper = stop
    if lower is not None and is_less(height, lower):
        return False
    return upper is None or not is_less(upper, height)


def gone_through(element, ray):
    """Return the ray behind an element, or None if it is blocked."""
    height, slope = ray
    match element:
        case ("gap", length):
            return (add(height, multiply(length, slope)), slope)
        case ("lens", power, center):
            return (height, subtract(slope, multiply(power, subtract(height, center))))
        case ("prism", deviation):
            return (height, add(slope, deviation))
        case ("afocal", magnification):
            return (multiply(magnification, height), divide(slope, magnification))
        case _:
            return ray if passes_stop(element, height) else None


def trace_ray(train, ray):
    """Return the list of the rays in front of, between and behind the elements, and the index of the blocking stop.

    If a stop blocks the ray, the list ends with the ray in front of it; otherwise the index is None.
    """
    rays = [ray]
    for index, element in enumerate(train):
        behind = gone_through(element, rays[-1])
        if behind is None:
            return (rays, index)
        rays.append(behind)
    return (rays, None)


def exit_ray(train, ray):
    """Return the ray behind the last element, or None if a stop blocks it."""
    rays, blocking = trace_ray(train, ray)
    return rays[-1] if blocking is None else None
