"""Slow answers that the tests compare with, found by trying everything."""

from heapq import heappop, heappush


def hops_from(town, corner):
    """Tell (step, to, long) of each step that may be gone from the corner."""
    found = []
    for number, (begin, end, long, one_way) in enumerate(town[1]):
        if begin == corner:
            found.append(((number, 0), end, long))
        if end == corner and not one_way:
            found.append(((number, 1), begin, long))
    return found


def reach(town, corner):
    """Tell the set of corners that can be come to from the corner."""
    seen = {corner}
    while True:
        more = {to for at in seen for _, to, _ in hops_from(town, at)} - seen
        if not more:
            return seen
        seen |= more


def slow_parts(town):
    corners = range(town[0])
    to = [reach(town, corner) for corner in corners]
    return sorted({tuple(b for b in corners if b in to[a] and a in to[b]) for a in corners})


def slow_bridges(town):
    corners, streets = town
    many = len(slow_parts(town))
    found = []
    for number in range(len(streets)):
        left = streets[:number] + streets[number + 1:]
        if len(slow_parts((corners, left))) > many:
            found.append(number)
    return found


def simple_ways(town, begin, end, seen=()):
    """Tell (how far, steps) of each way from begin to end that meets no corner twice."""
    if begin == end:
        return [(0, ())]
    found = []
    for step, to, long in hops_from(town, begin):
        if to not in seen and to != begin:
            for onward, steps in simple_ways(town, to, end, (*seen, begin)):
                found.append((long + onward, (step, *steps)))
    return found


def slow_way(town, begin, end):
    return min(simple_ways(town, begin, end), default=None)


def slow_far(town):
    corners = range(town[0])
    ways = [[slow_way(town, a, b) for b in corners] for a in corners]
    return [[None if way is None else way[0] for way in row] for row in ways]


def slow_least(town):
    """Tell how long a least round is, None if there is none.

    Searches over where one stands and which streets have been gone, from
    corner 0; where each corner can be come to from each, it's on some round.
    """
    if len(slow_parts(town)) > 1:
        return None
    all_gone = (1 << len(town[1])) - 1
    best = {(0, 0): 0}
    queue = [(0, 0, 0)]
    while queue:
        cost, corner, gone = heappop(queue)
        if corner == 0 and gone == all_gone:
            return cost
        if cost > best[corner, gone]:
            continue
        for (street, _), to, long in hops_from(town, corner):
            key = (to, gone | 1 << street)
            if cost + long < best.get(key, cost + long + 1):
                best[key] = cost + long
                heappush(queue, (cost + long, *key))
    return None


def time_fault(town, times):
    """Tell in words why a round can't go by such times, None if one can."""
    corners, streets = town
    if type(times) is not tuple or len(times) != len(streets):
        return "not a tuple of one for each street"
    spare = [0] * corners
    for (begin, end, _, one_way), pair in zip(streets, times):
        if type(pair) is not tuple or len(pair) != 2:
            return "not pairs"
        if any(type(count) is not int or not 0 <= count <= 99 for count in pair):
            return "not numbers from 0 to 99"
        forth, back = pair
        if one_way and back:
            return "a one-way street gone back"
        if forth + back < 1:
            return "a street not gone"
        spare[begin] -= forth - back
        spare[end] += forth - back
    if any(spare):
        return "a corner left otherwise often than come to"
    return None


def is_number(thing, low, high):
    return type(thing) is int and low <= thing <= high


def as_times(town, steps):
    """Tell times that count these steps of the town."""
    counts = [[0, 0] for _ in town[1]]
    for street, turn in steps:
        counts[street][turn] += 1
    return tuple(tuple(pair) for pair in counts)


def walk_fault(town, times, start, steps):
    """Tell in words why the steps are no walk of the times from start, None if they are."""
    if type(steps) is not tuple:
        return "not a tuple"
    corner = start
    for step in steps:
        if type(step) is not tuple or [type(number) for number in step] != [int, int]:
            return "not a step"
        ends = {hop: to for hop, to, _ in hops_from(town, corner)}
        if step not in ends:
            return "a step from elsewhere"
        corner = ends[step]
    if corner != start:
        return "an end elsewhere"
    if as_times(town, steps) != times:
        return "a street gone otherwise often"
    return None


def turned_hops(town, times):
    """Tell (from, to, how often) of each street and turn that is gone by the times."""
    found = []
    for (begin, end, _, _), (forth, back) in zip(town[1], times):
        found += [(begin, end, forth), (end, begin, back)]
    return [hop for hop in found if hop[2] > 0]


def slow_uneven(town, times):
    """Tell the first corner that is left otherwise often than come to, or None."""
    hops = turned_hops(town, times)
    for corner in range(town[0]):
        left = sum(many for begin, _, many in hops if begin == corner)
        come_to = sum(many for _, end, many in hops if end == corner)
        if left != come_to:
            return corner
    return None


def is_all_come_to(town, times, start):
    """Tell whether each street that is gone can be come to from start by such."""
    hops = turned_hops(town, times)
    seen = {start}
    while True:
        more = {end for begin, end, _ in hops if begin in seen} - seen
        if not more:
            return all(begin in seen for begin, _, _ in hops)
        seen |= more


def step_ends(town, step):
    """Tell the corners at which a step begins and ends, None for what is no step."""
    corners, streets = town
    if type(step) is not tuple or len(step) != 2:
        return None
    street, turn = step
    if not is_number(street, 0, len(streets) - 1) or not is_number(turn, 0, 1):
        return None
    begin, end, _, one_way = streets[street]
    if turn == 0:
        return begin, end
    return None if one_way else (end, begin)


def slow_fault(town, steps):
    """Tell the first by which the steps are no round, from all their ends at once."""
    ends = [step_ends(town, step) for step in steps]
    wrong = [
        number for number, pair in enumerate(ends)
        if pair is None or number > 0 and (ends[number - 1] is None or ends[number - 1][1] != pair[0])
    ]
    if wrong:
        return "step", wrong[0]
    if ends and ends[0][0] != ends[-1][1]:
        return ("open",)
    lacking = sorted(set(range(len(town[1]))) - {step[0] for step in steps})
    return ("lacks", lacking[0]) if lacking else None


def slow_shows(town, times, prices):
    """Tell whether the prices show that the times of a one-way town are least."""
    corners, streets = town
    if type(prices) is not tuple or len(prices) != corners:
        return False
    if not all(is_number(price, -99999, 99999) for price in prices):
        return False
    if min((forth for forth, _ in times), default=1) < 1 or slow_uneven(town, times) is not None:
        return False
    anew = 0
    for (begin, end, long, _), (forth, _) in zip(streets, times):
        if prices[end] > prices[begin] + long:
            return False
        anew += long * (forth - 1)
    total = 0
    for corner in range(corners):
        begin_there = [street for street in streets if street[0] == corner]
        end_there = [street for street in streets if street[1] == corner]
        total += prices[corner] * (len(begin_there) - len(end_there))
    return total == anew
