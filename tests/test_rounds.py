"""Point 5: least rounds."""

import itertools
import random
import unittest

from samples import MIXED, ONE_WAY, RING, TWO_WAY, ring_town, ring_towns, some_towns
from slow import slow_least, slow_parts, time_fault

from streetrounds.errors import BadTown, NoRound, TooMany
from streetrounds.rounds import least


def is_too_many(town):
    one_way = [street for street in town[1] if street[3] == 1]
    return len(one_way) > 0 and len(town[1]) - len(one_way) > 6


class Least(unittest.TestCase):
    def assert_least(self, town, long):
        told = least(town)
        self.assertIs(type(told), tuple)
        self.assertEqual(len(told), 2)
        self.assertIs(type(told[0]), int)
        self.assertIsNone(time_fault(town, told[1]))
        gone = [street[2] * sum(pair) for street, pair in zip(town[1], told[1])]
        self.assertEqual((told[0], sum(gone)), (long, long))

    def assert_as_slow(self, towns):
        for town in towns:
            with self.subTest(town=town):
                long = slow_least(town)
                if long is None:
                    with self.assertRaises(NoRound):
                        least(town)
                elif is_too_many(town):
                    with self.assertRaises(TooMany):
                        least(town)
                else:
                    self.assert_least(town, long)

    def test_a_round_of_no_steps(self):
        self.assertEqual(least((1, ())), (0, ()))

    def test_a_two_way_street_alone(self):
        self.assertEqual(least((2, ((0, 1, 7, 0),))), (14, ((1, 1),)))

    def test_one_way_streets_there_and_back(self):
        self.assertEqual(least((2, ((0, 1, 7, 1), (1, 0, 5, 1)))), (12, ((1, 0), (1, 0))))

    def test_a_ring_of_mixed_streets(self):
        self.assertEqual(least(RING), (112, ((1, 0), (1, 0), (1, 0), (1, 0))))

    def test_a_two_way_street_is_gone_the_way_that_serves(self):
        ring = ((0, 1, 5, 1), (1, 2, 5, 1))
        self.assertEqual(least((3, ring + ((2, 0, 5, 0),))), (15, ((1, 0), (1, 0), (1, 0))))
        self.assertEqual(least((3, ring + ((0, 2, 5, 0),))), (15, ((1, 0), (1, 0), (0, 1))))

    def test_one_street_is_gone_for_many(self):
        town = (2, ((0, 1, 99, 1),) * 15 + ((1, 0, 99, 1),))
        self.assertEqual(least(town), (99 * 30, ((1, 0),) * 15 + ((15, 0),)))

    def test_a_two_way_street_is_gone_back_for_many(self):
        town = (2, ((0, 1, 99, 1),) * 15 + ((0, 1, 99, 0),))
        self.assertEqual(least(town), (99 * 30, ((1, 0),) * 15 + ((0, 15),)))

    def test_the_shortest_of_several_ways_back(self):
        town = (3, ((0, 1, 9, 1), (0, 1, 9, 1), (1, 0, 9, 1), (1, 2, 4, 1), (2, 0, 4, 1), (0, 1, 9, 1)))
        self.assertEqual(least(town)[0], 27 + 9 + 16)

    def test_what_is_gone_for_one_corner_is_weighed_with_all_others(self):
        # To serve the nearest corner first, and keep to that, is longer here.
        town = (4, (
            (2, 0, 2, 1), (0, 3, 8, 1), (3, 1, 9, 1), (1, 2, 1, 1),
            (3, 0, 1, 1), (1, 2, 7, 1), (0, 3, 7, 1), (0, 3, 9, 1),
        ))
        self.assert_least(town, 55)
        town = (4, (
            (3, 2, 6, 1), (2, 0, 8, 1), (0, 1, 5, 1), (1, 3, 3, 1),
            (3, 1, 4, 1), (1, 3, 3, 1), (1, 3, 8, 1), (2, 0, 1, 1),
        ))
        self.assert_least(town, 49)

    def test_odd_corners_are_paired_least_in_all(self):
        # Near pairs first would leave two corners that are far from each other.
        town = (4, ((0, 1, 3, 0), (1, 2, 2, 0), (2, 3, 3, 0), (0, 3, 50, 0), (0, 2, 20, 0), (1, 3, 20, 0)))
        self.assert_least(town, 98 + 6)

    def test_eight_odd_corners(self):
        spokes = tuple((8, corner, corner + 1, 0) for corner in range(8))
        self.assert_least((9, spokes), 2 * 36)

    def test_sixteen_two_way_streets_of_the_same_ends(self):
        self.assert_least((2, ((0, 1, 5, 0),) * 16), 80)
        self.assert_least((2, ((0, 1, 5, 0),) * 14 + ((1, 0, 3, 0),)), 73 + 3)

    def test_no_round(self):
        for town in (
            (2, ()),
            (9, ()),
            (3, ((0, 1, 1, 0),)),
            (2, ((0, 1, 1, 1),)),
            (3, ((0, 1, 1, 0), (1, 2, 1, 1))),
            (4, ((0, 1, 1, 0), (2, 3, 1, 0))),
        ):
            with self.subTest(town=town), self.assertRaises(NoRound):
                least(town)

    def test_six_two_way_streets_beside_a_one_way_one(self):
        self.assert_least((2, ((0, 1, 5, 0),) * 6 + ((0, 1, 2, 1),)), 34)

    def test_seven_two_way_streets_beside_a_one_way_one(self):
        for many in range(7, 16):
            with self.subTest(many=many), self.assertRaises(TooMany):
                least((2, ((0, 1, 5, 0),) * many + ((0, 1, 2, 1),)))
        with self.assertRaises(TooMany):
            least((2, ((0, 1, 2, 1),) + ((0, 1, 5, 0),) * 7))

    def test_seven_two_way_streets_beside_none(self):
        self.assert_least((2, ((0, 1, 5, 0),) * 7), 40)

    def test_many_one_way_streets(self):
        self.assert_least((2, ((0, 1, 5, 1), (1, 0, 4, 1)) * 8), 72)

    def test_no_round_is_refused_ahead_of_too_many(self):
        with self.assertRaises(NoRound):
            least((3, ((0, 1, 5, 0),) * 7 + ((1, 2, 2, 1),)))

    def test_a_bad_town_is_refused_ahead_of_all(self):
        with self.assertRaises(BadTown) as caught:
            least((3, ((0, 1, 5, 0),) * 7 + ((0, 1, 2, 1), (1, 1, 1, 1))))
        self.assertEqual(caught.exception.number, 8)

    def test_all_towns_of_two_corners(self):
        rows = [(0, 1, long, one_way) for long in (1, 3) for one_way in (0, 1)] + [(1, 0, 2, 0), (1, 0, 2, 1)]
        for many in range(5):
            self.assert_as_slow((2, streets) for streets in itertools.product(rows, repeat=many))

    def test_all_towns_of_three_corners_and_four_streets(self):
        ends = [(0, 1), (1, 2), (2, 0), (0, 2)]
        for kinds in itertools.product((0, 1), repeat=4):
            for longs in itertools.product((1, 4), repeat=4):
                streets = tuple((*end, long, kind) for end, long, kind in zip(ends, longs, kinds))
                self.assert_as_slow([(3, streets)])

    def test_against_the_slow_search(self):
        towns = some_towns(41, 100, range(1, 6), range(0, 9), 9)
        towns += ring_towns(42, 100, range(2, 6), range(2, 10), 9)
        self.assertEqual({len(slow_parts(town)) > 1 for town in towns}, {False, True})
        self.assert_as_slow(towns)

    def test_greater_towns_against_the_slow_search(self):
        self.assert_as_slow(ring_towns(43, 12, range(6, 10), range(9, 13), 99))

    def test_nine_corners_and_sixteen_streets(self):
        chance = random.Random(44)
        for kind in (TWO_WAY, ONE_WAY, MIXED):
            self.assert_as_slow([ring_town(chance, kind, 9, 16, 99)])


if __name__ == "__main__":
    unittest.main()
