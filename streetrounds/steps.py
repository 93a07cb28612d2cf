"""The steps that the streets of a town can be gone by.

A hop is a tuple (begin, end, long, street, turn): the step (street, turn) goes
from the corner begin to the corner end, so long.
"""

FORTH = 0
BACK = 1


def all_hops(streets):
    """Tell the hops of all steps, as the steps rise."""
    hops = []
    for number, (begin, end, long, one_way) in enumerate(streets):
        hops.append((begin, end, long, number, FORTH))
        if one_way == 0:
            hops.append((end, begin, long, number, BACK))
    return hops
