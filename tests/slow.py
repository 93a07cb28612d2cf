"""Slow answers that the tests compare with, found by trying everything."""

from heapq import heappop, heappush


def hops_from(town, corner):
    """Tell (step, to, long) of each step that may be gone from the corner."""
    found = []
    for number, (begin, end, long, one_way) in enumerate(town[1]):
        if begin == corner:
            found.append(((number, 0), end, long))
        if end == corner and not one_way:
            found.append(((number, 1), begin, long))
    return found


def reach(town, corner):
    """Tell the set of corners that can be come to from the corner."""
    seen = {corner}
    while True:
        more = {to for at in seen for _, to, _ in hops_from(town, at)} - seen
        if not more:
            return seen
        seen |= more


def slow_parts(town):
    corners = range(town[0])
    to = [reach(town, corner) for corner in corners]
    return sorted({tuple(b for b in corners if b in to[a] and a in to[b]) for a in corners})


def slow_bridges(town):
    corners, streets = town
    many = len(slow_parts(town))
    found = []
    for number in range(len(streets)):
        left = streets[:number] + streets[number + 1:]
        if len(slow_parts((corners, left))) > many:
            found.append(number)
    return found


def simple_ways(town, begin, end, seen=()):
    """Tell (how far, steps) of each way from begin to end that meets no corner twice."""
    if begin == end:
        return [(0, ())]
    found = []
    for step, to, long in hops_from(town, begin):
        if to not in seen and to != begin:
            for onward, steps in simple_ways(town, to, end, (*seen, begin)):
                found.append((long + onward, (step, *steps)))
    return found


def slow_way(town, begin, end):
    return min(simple_ways(town, begin, end), default=None)


def slow_far(town):
    corners = range(town[0])
    ways = [[slow_way(town, a, b) for b in corners] for a in corners]
    return [[None if way is None else way[0] for way in row] for row in ways]


def slow_least(town):
    """Tell how long a least round is, None if there is none.

    Searches over where one stands and which streets have been gone, from
    corner 0; where each corner can be come to from each, it's on some round.
    """
    if len(slow_parts(town)) > 1:
        return None
    all_gone = (1 << len(town[1])) - 1
    best = {(0, 0): 0}
    queue = [(0, 0, 0)]
    while queue:
        cost, corner, gone = heappop(queue)
        if corner == 0 and gone == all_gone:
            return cost
        if cost > best[corner, gone]:
            continue
        for (street, _), to, long in hops_from(town, corner):
            key = (to, gone | 1 << street)
            if cost + long < best.get(key, cost + long + 1):
                best[key] = cost + long
                heappush(queue, (cost + long, *key))
    return None


def time_fault(town, times):
    """Tell in words why a round can't go by such times, None if one can."""
    corners, streets = town
    if type(times) is not tuple or len(times) != len(streets):
        return "not a tuple of one for each street"
    spare = [0] * corners
    for (begin, end, _, one_way), pair in zip(streets, times):
        if type(pair) is not tuple or len(pair) != 2:
            return "not pairs"
        if any(type(count) is not int or not 0 <= count <= 99 for count in pair):
            return "not numbers from 0 to 99"
        forth, back = pair
        if one_way and back:
            return "a one-way street gone back"
        if forth + back < 1:
            return "a street not gone"
        spare[begin] -= forth - back
        spare[end] += forth - back
    if any(spare):
        return "a corner left otherwise often than come to"
    return None
