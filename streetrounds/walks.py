"""Walks that go each street as often as told, and what makes steps no round."""

from streetrounds.checks import check_corner, check_times, check_town
from streetrounds.errors import NoRound, Uneven
from streetrounds.flows import spare_of
from streetrounds.steps import all_hops, ends_of, gone_by, is_step


def walk(town, times, start):
    """Tell steps from start back to it that go each street just as often as times tell."""
    check_town(town)
    corners, streets = town
    check_times(times, streets)
    check_corner(start, corners)
    hops = all_hops(streets)
    gone = gone_by(hops, times)
    check_even(spare_of(corners, hops, gone))
    steps = woven(hops, gone, start)
    if len(steps) < sum(gone):
        raise NoRound("some streets that are to be gone can't be come to")
    return steps


def check_even(spare):
    """Refuse a corner that is left otherwise often than come to by Uneven."""
    for corner, more in enumerate(spare):
        if more != 0:
            raise Uneven(corner)


def woven(hops, gone, start):
    """Tell steps from start back to it, as many as can be, that go each hop so often at most.

    Each corner must be left as often as come to when each hop is gone so often.
    """
    left = list(gone)
    trail = [(start, None)]
    steps = []
    # All corners are even, so the trail is stuck only where it can end; what
    # it passed by is then gone from the corners on the way back, last ones first.
    while trail:
        corner, step = trail[-1]
        place = place_left(hops, left, corner)
        if place is None:
            trail.pop()
            steps.append(step)
        else:
            left[place] -= 1
            _, end, _, street, turn = hops[place]
            trail.append((end, (street, turn)))
    # The last one taken off the trail is the start, to which no step came.
    steps.pop()
    return tuple(steps[::-1])


def place_left(hops, left, corner):
    """Tell the place of a hop from the corner that is left to be gone, or None."""
    for place, hop in enumerate(hops):
        if hop[0] == corner and left[place] > 0:
            return place
    return None


def fault(town, steps):
    """Tell the first by which steps are no round of the town, None for a round."""
    check_town(town)
    _, streets = town
    number = first_wrong_step(streets, steps)
    if number is not None:
        return "step", number
    if is_open(streets, steps):
        return ("open",)
    gone = [street for street, _ in steps]
    for street in range(len(streets)):
        if street not in gone:
            return "lacks", street
    return None


def first_wrong_step(streets, steps):
    """Tell the place of the first that is no step or doesn't go on, or None."""
    corner = None
    for number, step in enumerate(steps):
        if not is_step(step, streets):
            return number
        begin, end = ends_of(step, streets)
        if number > 0 and begin != corner:
            return number
        corner = end
    return None


def is_open(streets, steps):
    """Tell whether steps that go on from one to the next end elsewhere than they began."""
    if not steps:
        return False
    began, _ = ends_of(steps[0], streets)
    _, ended = ends_of(steps[-1], streets)
    return began != ended
