"""Certificates: lists of tuples (index, multiplier) that show that a region has no rays, or implies a half-plane."""

from itertools import combinations

from raytrain.errors import EmptyRegion
from raytrain.rationals import ZERO, add, common_divisor, fraction, is_at_most, multiply, nearest_to_zero, sign
from raytrain.regions import (
    contains_ray, determinant, half_planes_at, is_empty, ray_along, share_of, shares_of, some_ray, span_on_line,
    supremum,
)


def sum_of(half_planes, certificate):
    """Return the sum of the named half-planes, each times its multiplier: three fractions."""
    total = (ZERO, ZERO, ZERO)
    for index, multiplier in certificate:
        terms = [multiply(multiplier, fraction(number)) for number in half_planes[index]]
        total = (add(total[0], terms[0]), add(total[1], terms[1]), add(total[2], terms[2]))
    return total


def is_well_formed(half_planes, certificate):
    """Return whether the indexes of a certificate exist and ascend, and its multipliers are above 0."""
    last = -1
    for index, multiplier in certificate:
        if index <= last or index >= len(half_planes) or sign(multiplier) <= 0:
            return False
        last = index
    return True


def verify_emptiness(half_planes, certificate):
    """Return whether a certificate shows that the region has no rays."""
    if not is_well_formed(half_planes, certificate):
        return False
    p, q, r = sum_of(half_planes, certificate)
    return p == ZERO and q == ZERO and sign(r) < 0


def verify_implication(half_planes, half_plane, certificate):
    """Return whether a certificate shows that a half-plane contains all rays of the region."""
    if not is_well_formed(half_planes, certificate):
        return False
    p, q, r = [fraction(number) for number in half_plane]
    total = sum_of(half_planes, certificate)
    return total[0] == p and total[1] == q and is_at_most(total[2], r)


def emptiness_certificate(half_planes):
    """Return the first certificate that the region has no rays, or None if it has rays."""
    if not is_empty(half_planes):
        return None
    certificate = first_contrary_pair(half_planes)
    return first_contrary_three(half_planes) if certificate is None else certificate


def first_contrary_pair(half_planes):
    """Return the first certificate that names two half-planes and shows that no ray lies in both, or None."""
    for first, second in combinations(range(len(half_planes)), 2):
        p, q, _ = half_planes[second]
        share = share_of((-p, -q, 0), half_planes[first])
        if share is not None:
            numerator, denominator = share
            certificate = [(first, fraction(numerator)), (second, fraction(denominator))]
            if verify_emptiness(half_planes, certificate):
                return certificate
    return None


def first_contrary_three(half_planes):
    """Return the first certificate that names three half-planes and shows that no ray lies in all, or None."""
    for indexes in combinations(range(len(half_planes)), 3):
        weights = balancing_weights([half_planes[index] for index in indexes])
        if weights is not None:
            certificate = [(index, fraction(weight)) for index, weight in zip(indexes, weights)]
            if verify_emptiness(half_planes, certificate):
                return certificate
    return None


def balancing_weights(half_planes):
    """Return the integers above 0 with which three directions add up to nothing, if all pairs are independent."""
    one, two, three = half_planes
    weights = [determinant(two, three), determinant(three, one), determinant(one, two)]
    if min(weights) < 0:
        weights = [-weight for weight in weights]
    if min(weights) <= 0:
        return None
    divisor = common_divisor(common_divisor(weights[0], weights[1]), weights[2])
    return [weight // divisor for weight in weights]


def implication_certificate(half_planes, half_plane):
    """Return the first certificate that a half-plane contains all rays of a region with rays, or None."""
    if is_empty(half_planes):
        raise EmptyRegion()
    certificate = first_implying_one(half_planes, half_plane)
    return first_implying_pair(half_planes, half_plane) if certificate is None else certificate


def first_implying_one(half_planes, half_plane):
    """Return the first certificate that names one half-plane and shows that it lies in the given one, or None."""
    for index, other in enumerate(half_planes):
        share = share_of(half_plane, other)
        if share is not None:
            certificate = [(index, share)]
            if verify_implication(half_planes, half_plane, certificate):
                return certificate
    return None


def first_implying_pair(half_planes, half_plane):
    """Return the first certificate that names two independent half-planes and shows the given one, or None."""
    for first, second in combinations(range(len(half_planes)), 2):
        shares = shares_of(half_plane, half_planes[first], half_planes[second])
        if shares is not None:
            certificate = [(first, shares[0]), (second, shares[1])]
            if verify_implication(half_planes, half_plane, certificate):
                return certificate
    return None


def is_implied(half_planes, half_plane):
    """Return whether a half-plane contains all rays of a region."""
    ray = some_ray(half_planes)
    if ray is None:
        return True
    if not contains_ray([half_plane], ray):
        return False
    span = span_on_line(half_plane, half_planes)
    if span is None:
        # All rays of the region lie on the same side of the line.
        return True
    lower, upper = span
    touching = half_planes_at(half_planes, ray_along(half_plane, nearest_to_zero(lower, upper)))
    p, q, _ = half_plane
    return supremum(touching, fraction(p), fraction(q)) is not None
