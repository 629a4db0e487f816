"""The shortest train that can be made of the elements of a stock."""

from raytrain.equivalence import canonical_form, canonical_half_planes, form_of
from raytrain.maps import IDENTITY, compose_maps, element_map
from raytrain.papers import is_implied
from raytrain.regions import edges_behind


def shortest_train(stock, train, most):
    """Return the indexes of the elements of the shortest train of a stock that acts like a train, or None.

    Of trains with the same number of elements, the first one by their indexes is returned.
    """
    wanted = canonical_form(train)
    seen = set()
    # Rows are tuples: the indexes of the elements, the canonical half-planes, the map.
    rows = [([], [], IDENTITY)]
    for many in range(most + 1):
        different = []
        for row in rows:
            kind, half_planes, exits = form_of(row[1], row[2])
            if (kind, half_planes, exits) == wanted:
                return row[0]
            # Of rows that act alike, only the first one can be the beginning of what is looked for.
            key = (kind, tuple(half_planes), tuple(exits))
            if key not in seen:
                seen.add(key)
                different.append(row)
        if many < most:
            rows = longer_rows(different, stock, wanted[1])
    return None


def longer_rows(rows, stock, region):
    """Return the rows with one element of the stock more, without those that block rays of a region."""
    found = []
    for indexes, half_planes, transfer in rows:
        for index, element in enumerate(stock):
            further = planes_with(half_planes, transfer, element)
            if all([is_implied(region, half_plane) for half_plane in further]):
                found.append((indexes + [index], further, compose_maps(transfer, element_map(element))))
    return found


def planes_with(half_planes, transfer, element):
    """Return the canonical half-planes of a row with one element more, by those of the row and its map."""
    if element[0] != "stop":
        return half_planes
    return canonical_half_planes(half_planes + [half_plane for _, half_plane in edges_behind(transfer, 0, element)])
