"""How far it is between the corners of a town, and by which steps."""

from streetrounds.checks import check_corner, check_town
from streetrounds.steps import all_hops


def far(town):
    """Tell for each corner a list of how far it is to each, None for no way."""
    check_town(town)
    corners, streets = town
    return distances(corners, all_hops(streets))


def way(town, begin, end):
    """Tell how far it is from begin to end and the first shortest way, or None."""
    check_town(town)
    corners, streets = town
    check_corner(begin, corners)
    check_corner(end, corners)
    hops = all_hops(streets)
    table = distances(corners, hops)
    if table[begin][end] is None:
        return None
    return table[begin][end], first_way(hops, table, begin, end)


def distances(corners, hops):
    """Tell for each of so many corners how far it is to each by these hops."""
    table = [[None] * corners for _ in range(corners)]
    for corner in range(corners):
        table[corner][corner] = 0
    for begin, end, long, _, _ in hops:
        table[begin][end] = nearer(table[begin][end], long)
    for over in range(corners):
        for begin in range(corners):
            for end in range(corners):
                by_over = added(table[begin][over], table[over][end])
                table[begin][end] = nearer(table[begin][end], by_over)
    return table


def nearer(one, other):
    """Tell the less of two distances, each of which may be None for no way."""
    if one is None:
        return other
    if other is None:
        return one
    return min(one, other)


def added(one, other):
    """Tell how far two ways are together, None if one of them is None."""
    if one is None or other is None:
        return None
    return one + other


def first_way(hops, table, begin, end):
    """Tell the steps of the first shortest way from begin to end, which has one."""
    steps = []
    corner = begin
    while corner != end:
        # The hops rise by their steps, so the first one that fits is the least.
        fitting = [hop for hop in hops if hop[0] == corner and is_on_way(hop, table, end)]
        _, corner, _, street, turn = fitting[0]
        steps.append((street, turn))
    return tuple(steps)


def is_on_way(hop, table, end):
    """Tell whether a shortest way to end may begin with this hop."""
    begin, over, long, _, _ = hop
    onward = table[over][end]
    return onward is not None and long + onward == table[begin][end]
