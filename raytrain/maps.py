"""What trains do to rays if their stops are left out: maps (a, b, c, d, e, f) with a * d - b * c = 1.

A ray (height, slope) becomes (a * height + b * slope + e, c * height + d * slope + f).
"""

from raytrain.rationals import ONE, ZERO, add, divide, multiply, negative

IDENTITY = ((1, 1), (0, 1), (0, 1), (1, 1), (0, 1), (0, 1))


def element_map(element):
    """Return the map of an element; that of a stop changes no ray."""
    match element:
        case ("gap", length):
            return (ONE, length, ZERO, ONE, ZERO, ZERO)
        case ("lens", power, center):
            return (ONE, ZERO, negative(power), ONE, ZERO, multiply(power, center))
        case ("prism", deviation):
            return (ONE, ZERO, ZERO, ONE, ZERO, deviation)
        case ("afocal", enlargement):
            return (enlargement, ZERO, ZERO, divide(ONE, enlargement), ZERO, ZERO)
        case _:
            return IDENTITY


def ray_transfer(train):
    """Return the map of a train."""
    transfer = IDENTITY
    for element in train:
        transfer = compose_maps(transfer, element_map(element))
    return transfer


def apply_map(map_used, ray):
    """Return the ray that a map makes of a ray."""
    a, b, c, d, e, f = map_used
    height, slope = ray
    return (
        add(add(multiply(a, height), multiply(b, slope)), e),
        add(add(multiply(c, height), multiply(d, slope)), f),
    )


def without_shift(map_used):
    """Return the map that changes the differences of rays in the same way and leaves the ray (0, 0)."""
    return map_used[:4] + (ZERO, ZERO)


def compose_maps(first, second):
    """Return the map that applies the first one, then the second one."""
    a, b, c, d, e, f = first
    turning = without_shift(second)
    new_a, new_c = apply_map(turning, (a, c))
    new_b, new_d = apply_map(turning, (b, d))
    new_e, new_f = apply_map(second, (e, f))
    return (new_a, new_b, new_c, new_d, new_e, new_f)


def invert_map(map_used):
    """Return the map that undoes a map."""
    a, b, c, d, e, f = map_used
    turning_back = (d, negative(b), negative(c), a, ZERO, ZERO)
    height, slope = apply_map(turning_back, (e, f))
    return turning_back[:4] + (negative(height), negative(slope))


def image_distance(map_used, distance):
    """Return how far behind the exit the image of the object plane at a distance is, or None if there is none."""
    a, b = map_used[:2]
    factor = magnification(map_used, distance)
    if factor is None:
        return None
    return negative(multiply(add(multiply(a, distance), b), factor))


def magnification(map_used, distance):
    """Return the magnification of the object plane at a distance, or None if it has no image."""
    c, d = map_used[2:4]
    divisor = add(multiply(c, distance), d)
    return None if divisor == ZERO else divide(ONE, divisor)
