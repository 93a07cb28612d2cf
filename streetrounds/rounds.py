"""The least rounds of a town: how long they are and how often each street is gone."""

from streetrounds.checks import check_town
from streetrounds.errors import NoRound, TooMany
from streetrounds.flows import cheapest_more, spare_of
from streetrounds.pairings import least_pairing, odd_corners
from streetrounds.steps import BACK, FORTH, all_hops
from streetrounds.towns import lots
from streetrounds.ways import distances, first_way

MOST_TWO_WAY = 6


def least(town):
    """Tell how long a least round of the town is, and its times."""
    check_town(town)
    corners, streets = town
    check_round(corners, streets)
    check_two_way(streets)
    if any(street[3] == 1 for street in streets):
        times = mixed_times(corners, streets)
    else:
        times = two_way_times(corners, streets)
    return length(streets, times), times


def check_round(corners, streets):
    """Refuse streets that leave so many corners more than one part by NoRound."""
    if len(lots(corners, all_hops(streets))) > 1:
        raise NoRound("not each corner can be come to from each")


def check_two_way(streets):
    """Refuse too many two-way streets beside one-way ones by TooMany."""
    one_way = sum(street[3] for street in streets)
    if one_way > 0 and len(streets) - one_way > MOST_TWO_WAY:
        raise TooMany("too many two-way streets beside one-way ones")


def length(streets, times):
    """Tell how long all is that is gone by these times."""
    total = 0
    for (_, _, long, _), (forth, back) in zip(streets, times):
        total += long * (forth + back)
    return total


def mixed_times(corners, streets):
    """Tell the times of a least round where some streets are one-way."""
    # A round goes each two-way street some way at least once: which way is
    # tried out, and the rest is then a flow, for which the least is known.
    best = None
    for turns in all_turns(streets):
        times = turned_times(corners, streets, turns)
        if best is None or length(streets, times) < length(streets, best):
            best = times
    return best


def all_turns(streets):
    """Tell all lists of a turn for each street by which it can be gone."""
    found = [[]]
    for street in streets:
        turns = [FORTH] if street[3] == 1 else [FORTH, BACK]
        found = [[*ahead, turn] for ahead in found for turn in turns]
    return found


def turned_times(corners, streets, turns):
    """Tell the times of a least round that goes each street by its turn at least once."""
    hops = all_hops(streets)
    gone = [1 if turns[street] == turn else 0 for _, _, _, street, turn in hops]
    more = cheapest_more(corners, hops, spare_of(corners, hops, gone))
    times = [[0, 0] for _ in streets]
    for place, (_, _, _, street, turn) in enumerate(hops):
        times[street][turn] = gone[place] + more[place]
    return as_tuples(times)


def two_way_times(corners, streets):
    """Tell the times of a least round where all streets are two-way."""
    hops = all_hops(streets)
    table = distances(corners, hops)
    _, pairs = least_pairing(odd_corners(corners, streets), table)
    counts = [1] * len(streets)
    for begin, end in pairs:
        for street, _ in first_way(hops, table, begin, end):
            counts[street] += 1
    return directed_times(corners, hops, counts)


def directed_times(corners, hops, counts):
    """Tell times that go each street so often, each corner left as often as come to.

    Each corner must be even by these counts.
    """
    left = list(counts)
    times = [[0, 0] for _ in counts]
    for start in range(corners):
        # All corners are even, so what is gone from start ends only there.
        hop = next_hop(hops, left, start)
        while hop is not None:
            _, corner, _, street, turn = hop
            left[street] -= 1
            times[street][turn] += 1
            hop = next_hop(hops, left, corner)
    return as_tuples(times)


def next_hop(hops, left, corner):
    """Tell a hop from the corner by a street that is left to be gone, or None."""
    for hop in hops:
        begin, _, _, street, _ = hop
        if begin == corner and left[street] > 0:
            return hop
    return None


def as_tuples(times):
    """Tell the times as a tuple of tuples."""
    return tuple([(forth, back) for forth, back in times])
