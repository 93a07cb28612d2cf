"""Towns, and what is none, that several tests ask about."""

import random

from slow import hops_from

# A ring of mixed streets, which can be gone around one way alone.
RING = (4, ((0, 1, 5, 0), (1, 2, 7, 1), (2, 3, 1, 0), (3, 0, 99, 1)))

# The kinds of towns; the first two are what their streets' last field holds.
TWO_WAY = 0
ONE_WAY = 1
MIXED = 2
KINDS = (TWO_WAY, ONE_WAY, MIXED)


def some_towns(seed, many, corners, streets, longest):
    """Tell so many towns of each kind, the same for the same seed."""
    chance = random.Random(seed)
    found = []
    for _ in range(many):
        for kind in KINDS:
            found.append(some_town(chance, kind, chance.choice(corners), chance.choice(streets), longest))
    return found


def some_town(chance, kind, corners, streets, longest):
    """Tell a town of the kind, streets of the same ends among them by chance."""
    rows = []
    for _ in range(streets if corners > 1 else 0):
        begin, end = chance.sample(range(corners), 2)
        one_way = chance.randint(0, 1) if kind == MIXED else kind
        rows.append((begin, end, chance.randint(1, longest), one_way))
    return corners, tuple(rows)


def ring_towns(seed, many, corners, streets, longest):
    """Tell towns as some_towns, but each of one part: a ring goes through all corners.

    Where a town has one-way streets, not more than six are two-way.
    """
    chance = random.Random(seed)
    found = []
    for _ in range(many):
        for kind in KINDS:
            size = chance.choice(corners)
            found.append(ring_town(chance, kind, size, max(size, chance.choice(streets)), longest))
    return found


def ring_town(chance, kind, corners, streets, longest):
    ring = chance.sample(range(corners), corners)
    rows = []
    for place in range(streets):
        ends = (ring[place % corners], ring[(place + 1) % corners])
        if place >= corners:
            ends = chance.sample(range(corners), 2)
        one_way = kind
        if kind == MIXED:
            two_way = sum(row[3] == 0 for row in rows)
            one_way = 1 if two_way == 6 or place == 0 else chance.randint(0, 1)
        begin, end = ends
        if one_way == 0 and chance.randint(0, 1):
            begin, end = end, begin
        rows.append((begin, end, chance.randint(1, longest), one_way))
    chance.shuffle(rows)
    return corners, tuple(rows)


def with_street(place, street):
    """Tell RING with another street at the place."""
    corners, streets = RING
    return corners, (*streets[:place], street, *streets[place + 1:])


def with_field(place, field, thing):
    """Tell RING with another thing in the field of the street at the place."""
    street = RING[1][place]
    return with_street(place, (*street[:field], thing, *street[field + 1:]))


def no_towns():
    """Tell pairs: what is no town, and the number that BadTown must have."""
    return no_pairs() + no_corners() + no_streets() + no_street_at_place() + no_field_at_place()


def no_pairs():
    streets = RING[1]
    things = [None, True, False, 0, 4, 2.5, "", "town 4", b"", [], {}, (), (4,), (streets,)]
    things += [(4, streets, ()), (4, streets, None), [4, streets], ((4, streets),), {4: streets, 5: ()}]
    return [(thing, -1) for thing in things]


def no_corners():
    streets = RING[1]
    things = [0, 10, -1, 11, -4, 10 ** 30, True, False, None, "4", "", 4.0, [4], (4,), (), []]
    found = [((thing, streets), -1) for thing in things]
    # What is wrong with the streets tells nothing where the corners can't be.
    found += [((0, ()), -1), ((10, ()), -1), ((True, ()), -1), ((0, None), -1), ((10, [1]), -1)]
    return found


def no_streets():
    things = [None, True, False, 0, 1, 2.5, "", "abc", b"ab", [], list(RING[1]), {}]
    found = [((4, thing), 0) for thing in things]
    found += [((1, []), 0), ((9, None), 0)]
    return found


def no_street_at_place():
    things = [None, True, 0, 1.5, "", "0151", [], (), (0,), (0, 1), (0, 1, 5), (0, 1, 5, 0, 0), [0, 1, 5, 0]]
    found = [(with_street(place, thing), place) for place in range(4) for thing in things]
    # Of several that can't be, the first.
    found += [((4, (None, None)), 0), ((4, ((0, 1, 5, 0), None, (0, 0, 5, 0))), 1)]
    street = (1, 2, 3, 1)
    found += [
        ((4, (street,) * 17), 16),
        ((4, (street,) * 18), 16),
        ((4, (street,) * 16 + (None,)), 16),
        ((4, (street,) * 15 + (None, street)), 15),
        ((4, (street,) * 40), 16),
        # With one corner there are no two unlike ones.
        ((1, ((0, 1, 5, 0),)), 0),
        ((1, ((0, 0, 5, 0),)), 0),
    ]
    return found


def no_field_at_place():
    found = []
    odd = [None, True, False, 1.0, 0.0, "", "1", [], [1], (), (1,), -10 ** 30, 10 ** 30]
    for place in range(4):
        begin, end, _, _ = RING[1][place]
        for field, things in (
            (0, [-1, 4, 9, end]),
            (1, [-1, 4, 9, begin]),
            (2, [0, -1, 100, 101]),
            (3, [-1, 2]),
        ):
            for thing in odd + things:
                found.append((with_field(place, field, thing), place))
    return found


def bound_towns():
    """Tell towns that can just still be."""
    long_streets = tuple((k % 9, (k + 1) % 9, 99 if k % 2 else 1, k % 2) for k in range(12))
    return [
        (1, ()),
        (9, ()),
        (2, ((0, 1, 1, 0),)),
        (2, ((1, 0, 99, 1),)),
        (9, ((8, 0, 1, 1), (0, 8, 99, 1))),
        (9, long_streets),
        (2, ((0, 1, 1, 0),) * 16),
        (2, ((0, 1, 99, 1),) * 15 + ((1, 0, 99, 1),)),
    ]


# What is no corner of RING.
NO_CORNERS = (-1, 4, 9, 10 ** 30, True, False, None, 1.0, 0.0, "", "0", b"0", (), (0,), [], [0], {})


def no_numbers(most):
    """Tell things that are none of the numbers from 0 to most."""
    return [-1, most + 1, most + 2, -10 ** 30, 10 ** 30, True, False, None, 0.0, 1.0, "", "0", "1", [], [1], (), (1,)]


def no_times(town):
    """Tell pairs: what are no times of the town, and the number that BadTimes must have."""
    streets = town[1]
    many = len(streets)
    good = ((1, 0),) * many
    things = [None, True, False, 0, 1, 2.5, "", "10", [], list(good), {}, [[1, 0]] * many]
    found = [(thing, 0) for thing in things]
    found += [(good[:place], place) for place in range(many)]
    found += [(good + more, many) for more in (((1, 0),), (None,), ((1, 0), (1, 0)), ((0, 0),), ((),))]
    for place in range(many):
        for thing in no_pairs_of_times(streets[place][3]):
            found.append(((*good[:place], thing, *good[place + 1:]), place))
    # Of several that can't be, the first; one more or too few tells nothing then.
    found += [((None,) * many, 0), ((*good[:1], None, *good[2:], (1, 0)), 1), ((*good[:1], None), 1)]
    return found


def no_pairs_of_times(one_way):
    things = [None, True, 1, 10, 1.5, "", "10", (), (1,), (1, 0, 0), [1, 0], [], {1: 0, 0: 1}, ((1, 0),)]
    things += [(thing, 0) for thing in no_numbers(99)] + [(1, thing) for thing in no_numbers(99)]
    if one_way == 1:
        things += [(1, 1), (0, 1), (1, 99)]
    return things


def strolls(seed, towns, longest):
    """Tell (town, steps) of rounds by chance that may leave streets out, in towns of one part."""
    chance = random.Random(seed)
    found = []
    for town in towns:
        start = chance.randrange(town[0])
        found.append((town, stroll(chance, town, start, chance.randint(0, longest))))
    return found


def stroll(chance, town, start, many):
    """Tell so many steps from start by chance, and then steps back to it."""
    corner = start
    steps = []
    while (len(steps) < many or corner != start) and hops_from(town, corner):
        step, corner, _ = chance.choice(hops_from(town, corner))
        steps.append(step)
    return tuple(steps)
