"""Points 6 and 7: walks by told times, and what is wrong with steps."""

import itertools
import random
import unittest

from refusals import refusal
from samples import KINDS, NO_CORNERS, RING, no_numbers, no_times, ring_town, ring_towns, strolls
from slow import as_times, is_all_come_to, slow_fault, slow_uneven, step_ends, walk_fault

from streetrounds.errors import BadTimes, BadTown, NoCorner, NoRound, Uneven
from streetrounds.rounds import least
from streetrounds.walks import fault, walk

RING_TIMES = ((1, 0), (1, 0), (1, 0), (1, 0))

# Two rings of one-way streets that meet in corner 2, and a two-way street beside.
EIGHT = (6, (
    (0, 1, 1, 1), (1, 2, 1, 1), (2, 0, 1, 1),
    (2, 3, 1, 1), (3, 4, 1, 1), (4, 2, 1, 1),
    (4, 5, 1, 0),
))


def great_towns(seed, many):
    """Tell towns of each kind with nine corners and sixteen streets."""
    chance = random.Random(seed)
    return [ring_town(chance, kind, 9, 16, 99) for _ in range(many) for kind in KINDS]


def times_over(times, factor):
    return tuple((forth * factor, back * factor) for forth, back in times)


def corners_on(town, steps):
    return {corner for step in steps for corner in step_ends(town, step)}


class Walk(unittest.TestCase):
    def assert_walk(self, town, times, start):
        self.assertIsNone(walk_fault(town, times, start, walk(town, times, start)))

    def assert_as_slow(self, town, times, start):
        """See that what is told or refused is so by the slow reckoning."""
        uneven = slow_uneven(town, times)
        if uneven is not None:
            self.assertEqual(refusal(self, Uneven, walk, town, times, start), {"corner": uneven})
        elif not is_all_come_to(town, times, start):
            self.assertEqual(refusal(self, NoRound, walk, town, times, start), {})
        else:
            self.assert_walk(town, times, start)

    def test_a_ring_from_each_corner(self):
        self.assertEqual(walk(RING, RING_TIMES, 0), ((0, 0), (1, 0), (2, 0), (3, 0)))
        self.assertEqual(walk(RING, RING_TIMES, 2), ((2, 0), (3, 0), (0, 0), (1, 0)))

    def test_a_two_way_street_alone(self):
        town = (2, ((0, 1, 7, 0),))
        self.assertEqual(walk(town, ((1, 1),), 0), ((0, 0), (0, 1)))
        self.assertEqual(walk(town, ((1, 1),), 1), ((0, 1), (0, 0)))
        self.assertEqual(walk(town, ((2, 2),), 1), ((0, 1), (0, 0), (0, 1), (0, 0)))

    def test_rings_that_meet_are_all_gone(self):
        times = ((1, 0),) * 6 + ((1, 1),)
        for start in range(6):
            self.assert_walk(EIGHT, times, start)

    def test_no_steps_for_times_of_nothing(self):
        towns = [RING, EIGHT, (1, ()), (9, ()), (3, ((0, 1, 1, 1),)), *great_towns(61, 1)]
        for town in towns:
            for start in range(town[0]):
                self.assertEqual(walk(town, ((0, 0),) * len(town[1]), start), ())

    def test_times_of_least_rounds_from_each_corner(self):
        towns = ring_towns(62, 20, range(2, 10), range(2, 17), 99) + great_towns(63, 4)
        for town in towns:
            _, times = least(town)
            for start in range(town[0]):
                with self.subTest(town=town, start=start):
                    self.assert_walk(town, times, start)

    def test_many_times_a_least_round(self):
        for town in ring_towns(64, 6, range(2, 10), range(2, 17), 99) + great_towns(65, 1):
            _, times = least(town)
            most = 99 // max(max(pair) for pair in times)
            for factor in (2, 3, most):
                with self.subTest(town=town, factor=factor):
                    if factor <= most:
                        self.assert_walk(town, times_over(times, factor), factor % town[0])

    def test_all_streets_gone_as_often_as_can_be(self):
        self.assert_walk((2, ((0, 1, 1, 0),) * 16), ((99, 99),) * 16, 1)
        ring = tuple((corner, (corner + 1) % 8, 99, 0) for corner in range(8))
        self.assert_walk((9, ring * 2), ((99, 99),) * 16, 7)
        self.assert_walk((2, ((0, 1, 1, 1), (1, 0, 1, 1)) * 8), ((99, 0),) * 16, 0)

    def test_times_that_leave_streets_out(self):
        towns = ring_towns(66, 30, range(2, 10), range(2, 17), 99) + great_towns(67, 5)
        for town, steps in strolls(68, towns, 12):
            times = as_times(town, steps)
            on = corners_on(town, steps)
            for start in range(town[0]):
                with self.subTest(town=town, times=times, start=start):
                    if steps and start not in on:
                        self.assertEqual(refusal(self, NoRound, walk, town, times, start), {})
                    else:
                        self.assert_walk(town, times, start)

    def test_all_times_of_a_small_town(self):
        town = (4, ((0, 1, 1, 0), (1, 2, 1, 1), (0, 2, 1, 0), (2, 3, 1, 0)))
        pairs = list(itertools.product(range(3), repeat=2))
        ahead = [(forth, 0) for forth in range(3)]
        for times in itertools.product(pairs, ahead, pairs, pairs[:5]):
            self.assert_as_slow(town, times, sum(map(sum, times)) % 4)

    def test_times_told_otherwise_by_a_little(self):
        chance = random.Random(69)
        towns = ring_towns(70, 40, range(2, 10), range(2, 17), 99)
        for town, steps in strolls(71, towns, 20):
            times = [list(pair) for pair in as_times(town, steps)]
            for _ in range(chance.randint(1, 2)):
                number = chance.randrange(len(times))
                turn = 0 if town[1][number][3] else chance.randint(0, 1)
                times[number][turn] = max(0, times[number][turn] + chance.choice((-1, 1)))
            with self.subTest(town=town, times=times):
                self.assert_as_slow(town, tuple(map(tuple, times)), chance.randrange(town[0]))

    def test_asked_again_the_same_is_told(self):
        for town in great_towns(72, 2):
            _, times = least(town)
            self.assertEqual(walk(town, times, 3), walk(town, times, 3))


class WalkRefused(unittest.TestCase):
    def assert_bad_times(self, town, times, start, number):
        self.assertEqual(refusal(self, BadTimes, walk, town, times, start), {"number": number})

    def test_what_are_no_times(self):
        for times, number in no_times(RING):
            with self.subTest(times=times):
                self.assert_bad_times(RING, times, 0, number)

    def test_what_are_no_times_of_a_town_without_streets(self):
        for times in ((None,), ((0, 0),), [], None, ((0, 0), (0, 0))):
            self.assert_bad_times((1, ()), times, 0, 0)

    def test_what_are_no_times_of_sixteen_streets(self):
        town = (2, ((0, 1, 1, 0),) * 16)
        self.assert_bad_times(town, ((1, 1),) * 15, 0, 15)
        self.assert_bad_times(town, ((1, 1),) * 17, 0, 16)
        self.assert_bad_times(town, ((1, 1),) * 15 + ((1, 100),), 0, 15)

    def test_times_at_their_bounds_are_taken(self):
        self.assertEqual(len(walk((2, ((0, 1, 1, 0),)), ((99, 99),), 0)), 198)
        self.assertEqual(walk((2, ((0, 1, 1, 0),)), ((0, 0),), 0), ())
        self.assertEqual(len(walk((2, ((0, 1, 1, 1), (0, 1, 1, 0))), ((99, 0), (0, 99)), 0)), 198)

    def test_what_is_no_corner(self):
        for start in NO_CORNERS:
            with self.subTest(start=start):
                self.assertEqual(refusal(self, NoCorner, walk, RING, RING_TIMES, start), {})
        self.assertEqual(refusal(self, NoCorner, walk, (1, ()), (), 1), {})

    def test_the_first_uneven_corner(self):
        times = {
            0: ((2, 0), (1, 0), (1, 0), (1, 0)),
            1: ((1, 0), (2, 0), (1, 0), (1, 0)),
            2: ((1, 0), (1, 0), (1, 1), (1, 0)),
        }
        for corner, told in times.items():
            self.assertEqual(refusal(self, Uneven, walk, RING, told, 0), {"corner": corner})
        town = (9, ((7, 8, 1, 1),))
        self.assertEqual(refusal(self, Uneven, walk, town, ((1, 0),), 7), {"corner": 7})
        self.assertEqual(refusal(self, Uneven, walk, town, ((1, 0),), 0), {"corner": 7})

    def test_streets_that_cannot_be_come_to(self):
        town = (4, ((0, 1, 1, 0), (1, 2, 1, 0), (2, 3, 1, 0)))
        apart = ((1, 1), (0, 0), (1, 1))
        for start in range(4):
            self.assertEqual(refusal(self, NoRound, walk, town, apart, start), {})
        # That a street could be gone doesn't help where it isn't to be gone.
        self.assertEqual(refusal(self, NoRound, walk, town, ((1, 1), (0, 0), (0, 0)), 2), {})
        self.assertEqual(refusal(self, NoRound, walk, EIGHT, ((1, 0),) * 3 + ((0, 0),) * 4, 3), {})

    def test_a_town_without_a_round_may_have_a_walk(self):
        self.assertEqual(walk((3, ((0, 1, 1, 0),)), ((1, 1),), 0), ((0, 0), (0, 1)))
        self.assertEqual(walk((3, ((0, 1, 1, 0), (1, 2, 1, 1))), ((1, 1), (0, 0)), 1), ((0, 1), (0, 0)))

    def test_the_order_of_refusals(self):
        town = (4, ((0, 1, 1, 0), (2, 3, 1, 0)))
        self.assertEqual(refusal(self, BadTown, walk, (0, ()), None, None), {"number": -1})
        self.assertEqual(refusal(self, BadTown, walk, (4, (None,)), None, None), {"number": 0})
        self.assert_bad_times(town, ((1, 0), (1,)), None, 1)
        self.assert_bad_times(town, ((1, 0), (100, 0)), 4, 1)
        self.assertEqual(refusal(self, NoCorner, walk, town, ((1, 0), (1, 0)), 4), {})
        self.assertEqual(refusal(self, NoCorner, walk, town, ((1, 1), (1, 1)), 4), {})
        self.assertEqual(refusal(self, Uneven, walk, town, ((1, 1), (1, 0)), 0), {"corner": 2})
        self.assertEqual(refusal(self, NoRound, walk, town, ((1, 1), (1, 1)), 0), {})


class Fault(unittest.TestCase):
    def assert_fault(self, town, steps, told):
        """See that this is told of the steps as a tuple and as a list."""
        for kind in (tuple, list):
            found = fault(town, kind(steps))
            self.assertEqual(found, told)
            self.assertEqual(type(found), type(told))

    def test_rounds(self):
        self.assert_fault(RING, ((0, 0), (1, 0), (2, 0), (3, 0)), None)
        self.assert_fault(RING, ((2, 0), (2, 1), (2, 0), (3, 0), (0, 0), (1, 0)), None)
        self.assert_fault((2, ((0, 1, 7, 0),)), ((0, 1), (0, 0)), None)

    def test_no_steps(self):
        self.assert_fault((1, ()), (), None)
        self.assert_fault((9, ()), (), None)
        self.assert_fault(RING, (), ("lacks", 0))
        self.assert_fault((2, ((0, 1, 1, 1),)), (), ("lacks", 0))

    def test_walks_by_the_times_of_least_rounds(self):
        towns = ring_towns(73, 10, range(2, 10), range(2, 17), 99) + great_towns(74, 2)
        for town in towns:
            _, times = least(town)
            for start in range(town[0]):
                with self.subTest(town=town, start=start):
                    self.assert_fault(town, walk(town, times, start), None)

    def test_what_is_no_step(self):
        steps = ((0, 0), (1, 0), (2, 0), (3, 0))
        things = [None, True, 0, 1.5, "", "00", b"00", (), (0,), (0, 0, 0), [0, 0], {0: 0, 1: 0}, ((0, 0),)]
        things += [(thing, 0) for thing in no_numbers(3)] + [(4, 0), (4, 1)]
        things += [(0, thing) for thing in no_numbers(1)] + [(2, thing) for thing in no_numbers(1)]
        things += [(1, 1), (3, 1), (True, False), (False, False), (False, True)]
        for thing in things:
            for place in range(4):
                with self.subTest(thing=thing, place=place):
                    self.assert_fault(RING, (*steps[:place], thing, *steps[place + 1:]), ("step", place))
            self.assert_fault(RING, (*steps, thing), ("step", 4))
            self.assert_fault(RING, (thing,), ("step", 0))

    def test_no_step_goes_where_there_are_no_streets(self):
        for step in ((0, 0), (0, 1), (-1, 0), None):
            self.assert_fault((1, ()), (step,), ("step", 0))

    def test_steps_that_do_not_go_on(self):
        self.assert_fault(RING, ((0, 0), (2, 0), (3, 0)), ("step", 1))
        self.assert_fault(RING, ((0, 0), (0, 0)), ("step", 1))
        self.assert_fault(RING, ((0, 0), (0, 1), (1, 0)), ("step", 2))
        self.assert_fault(RING, ((2, 1), (2, 1)), ("step", 1))

    def test_the_first_that_is_wrong(self):
        self.assert_fault(RING, ((0, 0), (2, 0), None), ("step", 1))
        self.assert_fault(RING, ((0, 0), None, (2, 0)), ("step", 1))
        self.assert_fault(RING, ((0, 0), (1, 0), (0, 0), (9, 9)), ("step", 2))

    def test_steps_that_end_elsewhere(self):
        self.assert_fault(RING, ((0, 0),), ("open",))
        self.assert_fault(RING, ((0, 0), (1, 0), (2, 0)), ("open",))
        self.assert_fault(RING, ((0, 0), (1, 0), (2, 0), (3, 0), (0, 0)), ("open",))
        self.assert_fault((2, ((0, 1, 1, 1),)), ((0, 0),), ("open",))

    def test_steps_that_leave_streets_out(self):
        self.assert_fault(RING, ((2, 0), (2, 1)), ("lacks", 0))
        self.assert_fault(RING, ((0, 0), (0, 1)), ("lacks", 1))
        town = (3, ((0, 1, 1, 0), (1, 2, 1, 0), (0, 1, 1, 0)))
        self.assert_fault(town, ((0, 0), (1, 0), (1, 1), (0, 1)), ("lacks", 2))
        self.assert_fault(town, ((1, 1), (1, 0)), ("lacks", 0))
        self.assert_fault(town, ((0, 0), (2, 1)), ("lacks", 1))

    def test_a_street_gone_back_alone_is_gone(self):
        self.assert_fault((2, ((0, 1, 1, 0), (0, 1, 1, 1))), ((1, 0), (0, 1)), None)

    def test_rounds_told_otherwise_by_a_little(self):
        chance = random.Random(75)
        told = set()
        for town in ring_towns(76, 25, range(2, 8), range(2, 12), 9):
            steps = list(walk(town, least(town)[1], 0))
            for place in range(len(steps) + 1):
                other = (chance.randrange(-1, len(town[1]) + 1), chance.randint(0, 1))
                for changed in (
                    steps[:place],
                    steps[:place] + steps[place + 1:],
                    steps[:place] + [other] + steps[place:],
                    steps[:place] + [other] + steps[place + 1:],
                    steps[place:] + steps[:place],
                ):
                    with self.subTest(town=town, steps=changed):
                        found = slow_fault(town, changed)
                        self.assert_fault(town, changed, found)
                        told.add(None if found is None else found[0])
        self.assertEqual(told, {None, "step", "open", "lacks"})

    def test_strolls_lack_just_what_they_leave_out(self):
        towns = ring_towns(77, 30, range(2, 10), range(2, 17), 9)
        for town, steps in strolls(78, towns, 15):
            with self.subTest(town=town, steps=steps):
                self.assert_fault(town, steps, slow_fault(town, steps))
                self.assertNotEqual(fault(town, steps), ("open",))

    def test_a_bad_town_is_refused(self):
        self.assertEqual(refusal(self, BadTown, fault, (4, (None,)), ()), {"number": 0})
        self.assertEqual(refusal(self, BadTown, fault, None, [None]), {"number": -1})

    def test_the_list_is_not_changed(self):
        steps = [(0, 0), (1, 0), (2, 0), (3, 0)]
        kept = list(steps)
        fault(RING, steps)
        self.assertEqual(steps, kept)


if __name__ == "__main__":
    unittest.main()
