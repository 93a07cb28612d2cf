"""Point 4: how far it is, and the first shortest way."""

import unittest

from samples import NO_CORNERS, RING, ring_towns, some_towns
from slow import slow_far, slow_way

from streetrounds.errors import BadTown, NoCorner
from streetrounds.ways import far, way


class Far(unittest.TestCase):
    def test_one_corner(self):
        self.assertEqual(far((1, ())), [[0]])

    def test_no_way_is_none(self):
        self.assertEqual(far((2, ())), [[0, None], [None, 0]])
        self.assertEqual(far((2, ((0, 1, 7, 1),))), [[0, 7], [None, 0]])

    def test_both_ways_of_a_two_way_street(self):
        self.assertEqual(far((2, ((1, 0, 7, 0),))), [[0, 7], [7, 0]])

    def test_the_shortest_of_several_streets(self):
        self.assertEqual(far((2, ((0, 1, 9, 0), (0, 1, 4, 1), (1, 0, 6, 0)))), [[0, 4], [6, 0]])

    def test_a_ring_of_mixed_streets(self):
        told = far(RING)
        self.assertEqual(told, [[0, 5, 12, 13], [5, 0, 7, 8], [100, 105, 0, 1], [99, 104, 1, 0]])
        self.assertIs(type(told), list)
        self.assertEqual({type(row) for row in told}, {list})

    def test_a_long_chain(self):
        streets = tuple((k, k + 1, 99, 1) for k in range(8))
        self.assertEqual(far((9, streets))[0], [99 * k for k in range(9)])
        self.assertEqual(far((9, streets))[8], [None] * 8 + [0])

    def test_against_the_slow_search(self):
        towns = some_towns(21, 100, range(1, 7), range(0, 13), 9)
        towns += some_towns(22, 3, (9,), (16,), 99) + ring_towns(23, 3, (9,), (16,), 99)
        for town in towns:
            with self.subTest(town=town):
                self.assertEqual(far(town), slow_far(town))


class Way(unittest.TestCase):
    def test_a_corner_to_itself(self):
        self.assertEqual(way((1, ()), 0, 0), (0, ()))
        for corner in range(4):
            self.assertEqual(way(RING, corner, corner), (0, ()))

    def test_no_way_is_none(self):
        self.assertIsNone(way((2, ()), 0, 1))
        self.assertIsNone(way((2, ((0, 1, 7, 1),)), 1, 0))
        self.assertIsNone(way((3, ((0, 1, 7, 1), (2, 1, 7, 1))), 0, 2))

    def test_forth_and_back(self):
        self.assertEqual(way(RING, 0, 1), (5, ((0, 0),)))
        self.assertEqual(way(RING, 1, 0), (5, ((0, 1),)))
        self.assertEqual(way(RING, 2, 1), (105, ((2, 0), (3, 0), (0, 0))))
        self.assertEqual(way(RING, 3, 2), (1, ((2, 1),)))

    def test_of_like_streets_the_first(self):
        town = (2, ((0, 1, 9, 0), (1, 0, 4, 0), (0, 1, 4, 1), (0, 1, 4, 0)))
        self.assertEqual(way(town, 0, 1), (4, ((1, 1),)))
        self.assertEqual(way(town, 1, 0), (4, ((1, 0),)))

    def test_of_several_ways_the_first_as_tuples_rise(self):
        # By street 1 and 2 with more steps, by street 3 with one: the tuple
        # that begins less is the first, however many its steps.
        town = (3, ((2, 1, 1, 1), (0, 1, 2, 1), (1, 2, 2, 1), (0, 2, 4, 1)))
        self.assertEqual(way(town, 0, 2), (4, ((1, 0), (2, 0))))
        turned = (3, ((0, 2, 4, 1), (0, 1, 2, 1), (1, 2, 2, 1)))
        self.assertEqual(way(turned, 0, 2), (4, ((0, 0),)))

    def test_the_first_decides_at_each_corner_anew(self):
        town = (4, ((2, 3, 1, 1), (1, 3, 1, 1), (0, 1, 1, 0), (0, 2, 1, 0)))
        self.assertEqual(way(town, 0, 3), (2, ((2, 0), (1, 0))))

    def test_what_is_no_corner_is_refused(self):
        for thing in NO_CORNERS:
            for begin, end in ((thing, 0), (0, thing), (thing, thing)):
                with self.subTest(begin=begin, end=end), self.assertRaises(NoCorner):
                    way(RING, begin, end)

    def test_corners_at_their_bounds(self):
        with self.assertRaises(NoCorner):
            way((1, ()), 0, 1)
        with self.assertRaises(NoCorner):
            way((9, ()), 9, 0)
        self.assertIsNone(way((9, ()), 8, 0))

    def test_a_bad_town_is_refused_ahead_of_what_is_no_corner(self):
        with self.assertRaises(BadTown):
            way((0, ()), None, None)

    def test_kinds_of_values(self):
        told = way(RING, 0, 3)
        self.assertIs(type(told), tuple)
        self.assertIs(type(told[1]), tuple)
        self.assertEqual({type(step) for step in told[1]}, {tuple})

    def test_against_the_slow_search(self):
        # Short streets make many ways alike in length.
        towns = some_towns(31, 40, range(1, 7), range(0, 13), 3)
        towns += ring_towns(32, 30, range(2, 7), range(2, 13), 2)
        towns += ring_towns(33, 2, (9,), (16,), 2) + ring_towns(34, 2, (9,), (16,), 99)
        for town in towns:
            for begin in range(town[0]):
                for end in range(town[0]):
                    with self.subTest(town=town, begin=begin, end=end):
                        self.assertEqual(way(town, begin, end), slow_way(town, begin, end))


if __name__ == "__main__":
    unittest.main()
