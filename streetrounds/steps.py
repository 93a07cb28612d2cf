"""The steps that the streets of a town can be gone by.

A hop is a tuple (begin, end, long, street, turn): the step (street, turn) goes
from the corner begin to the corner end, so long.
"""

from streetrounds.checks import is_whole

FORTH = 0
BACK = 1


def all_hops(streets):
    """Tell the hops of all steps, as the steps rise."""
    hops = []
    for number, (begin, end, long, one_way) in enumerate(streets):
        hops.append((begin, end, long, number, FORTH))
        if one_way == 0:
            hops.append((end, begin, long, number, BACK))
    return hops


def is_step(thing, streets):
    """Tell whether thing is a step by one of these streets."""
    if not isinstance(thing, tuple) or len(thing) != 2:
        return False
    street, turn = thing
    if not is_whole(street, 0, len(streets) - 1):
        return False
    return is_whole(turn, FORTH, FORTH if streets[street][3] == 1 else BACK)


def ends_of(step, streets):
    """Tell the corner at which the step begins, and the one at which it ends."""
    street, turn = step
    begin, end, _, _ = streets[street]
    return (begin, end) if turn == FORTH else (end, begin)


def gone_by(hops, times):
    """Tell how often each hop is gone by these times."""
    return [times[street][turn] for _, _, _, street, turn in hops]
