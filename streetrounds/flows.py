"""How often more hops are to be gone until each corner is left as often as come to.

Spare is a list: for each corner how much oftener it's come to than left.
"""


def spare_of(corners, hops, gone):
    """Tell the spare of so many corners when each hop is gone so often."""
    spare = [0] * corners
    for (begin, end, _, _, _), times in zip(hops, gone):
        spare[begin] -= times
        spare[end] += times
    return spare


def cheapest_more(corners, hops, spare):
    """Tell how often more to go each hop that no spare is left, as short as can be.

    Each corner must be one that can be come to from each.
    """
    spare = list(spare)
    more = [0] * len(hops)
    while any(spare):
        changes = all_changes(hops, more)
        cost, last = cheapest_changes(corners, changes, spare)
        target = cheapest_lacking(spare, cost)
        source = target
        while last[source] is not None:
            begin, _, _, number, by = last[source]
            more[number] += by
            source = begin
        spare[source] -= 1
        spare[target] += 1
    return more


def all_changes(hops, more):
    """Tell the changes (begin, end, cost, hop, by) that bear one unit from begin to end."""
    changes = []
    for number, (begin, end, long, _, _) in enumerate(hops):
        changes.append((begin, end, long, number, 1))
        # What was gone for an earlier unit may be taken back for a better one.
        if more[number] > 0:
            changes.append((end, begin, -long, number, -1))
    return changes


def cheapest_changes(corners, changes, spare):
    """Tell for each corner what a unit costs from any spare one, and the last change."""
    cost = [0 if spare[corner] > 0 else None for corner in range(corners)]
    last = [None] * corners
    is_settled = False
    while not is_settled:
        is_settled = True
        for change in changes:
            begin, end, long, _, _ = change
            if cost[begin] is not None and (cost[end] is None or cost[begin] + long < cost[end]):
                cost[end] = cost[begin] + long
                last[end] = change
                is_settled = False
    return cost, last


def cheapest_lacking(spare, cost):
    """Tell the corner to which a unit costs least, of those that are left too often."""
    lacking = [(cost[corner], corner) for corner in range(len(spare)) if spare[corner] < 0]
    _, corner = min(lacking)
    return corner
