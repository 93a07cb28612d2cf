"""How the corners of a town hang together."""

from streetrounds.checks import check_town
from streetrounds.steps import all_hops


def parts(town):
    """Tell the lots of corners that can be come to from one another."""
    check_town(town)
    corners, streets = town
    return lots(corners, all_hops(streets))


def bridges(town):
    """Tell the streets without any one of which there are more parts."""
    check_town(town)
    corners, streets = town
    hops = all_hops(streets)
    many = len(lots(corners, hops))
    found = []
    for number in range(len(streets)):
        left = [hop for hop in hops if hop[3] != number]
        if len(lots(corners, left)) > many:
            found.append(number)
    return found


def lots(corners, hops):
    """Tell the parts, as great as can be, that so many corners make by these hops."""
    reach = [reached(corners, hops, corner) for corner in range(corners)]
    found = []
    for corner in range(corners):
        lot = [other for other in range(corners) if reach[corner][other] and reach[other][corner]]
        if lot[0] == corner:
            found.append(tuple(lot))
    return found


def reached(corners, hops, start):
    """Tell for each corner whether it can be come to from start."""
    seen = [False] * corners
    seen[start] = True
    waiting = [start]
    while waiting:
        corner = waiting.pop()
        for begin, end, _, _, _ in hops:
            if begin == corner and not seen[end]:
                seen[end] = True
                waiting.append(end)
    return seen
