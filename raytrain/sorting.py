"""Sorting by an order that only a function tells."""


def sorted_once(values, is_before):
    """Return the list of the different values, sorted; is_before(one, other) tells their order."""
    ordered = []
    for value in values:
        if value not in ordered:
            ahead = [other for other in ordered if is_before(other, value)]
            ordered.insert(len(ahead), value)
    return ordered
