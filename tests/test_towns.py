"""Points 2 and 3: which towns can be, parts and bridges."""

import unittest

from samples import RING, bound_towns, no_towns, ring_towns, some_towns
from slow import slow_bridges, slow_parts

from streetrounds.desks import Desk
from streetrounds.errors import BadTown, NoRound, StreetError
from streetrounds.notes import written
from streetrounds.pricing import priced, shows
from streetrounds.rounds import least
from streetrounds.towns import bridges, parts
from streetrounds.walks import fault, walk
from streetrounds.ways import far, way

ASKED = {
    "parts": parts,
    "bridges": bridges,
    "far": far,
    "way": lambda town: way(town, 0, 0),
    "way, behind what is no corner either": lambda town: way(town, None, -1),
    "least": least,
    "walk": lambda town: walk(town, ((1, 0),) * 4, 0),
    "walk, behind what are no times and no corner either": lambda town: walk(town, None, None),
    "fault": lambda town: fault(town, ()),
    "fault, behind what is no step either": lambda town: fault(town, [None]),
    "priced": priced,
    "shows": lambda town: shows(town, ((1, 0),) * 4, (0,) * 4),
    "shows, behind what are no times and no prices either": lambda town: shows(town, None, None),
    "Desk": Desk,
    "written": written,
}


class WhatIsATown(unittest.TestCase):
    def test_what_is_no_town_is_refused_by_each_function(self):
        for name, asked in ASKED.items():
            for town, number in no_towns():
                with self.subTest(name=name, town=town):
                    with self.assertRaises(BadTown) as caught:
                        asked(town)
                    self.assertEqual(caught.exception.number, number)
                    self.assertIs(type(caught.exception.number), int)

    def test_towns_at_their_bounds_are_taken(self):
        for town in bound_towns():
            with self.subTest(town=town):
                self.assertEqual(parts(town), slow_parts(town))
                self.assertEqual(bridges(town), slow_bridges(town))
                self.assertEqual(len(far(town)), town[0])
                self.assertEqual(way(town, 0, 0), (0, ()))
                try:
                    self.assertGreaterEqual(least(town)[0], 0)
                except NoRound:
                    self.assertGreater(len(parts(town)), 1)

    def test_each_refusal_is_a_street_error(self):
        with self.assertRaises(StreetError):
            parts(None)


class Parts(unittest.TestCase):
    def test_one_corner(self):
        self.assertEqual(parts((1, ())), [(0,)])

    def test_corners_without_streets(self):
        self.assertEqual(parts((3, ())), [(0,), (1,), (2,)])

    def test_two_way_streets_hang_together(self):
        self.assertEqual(parts((4, ((3, 1, 1, 0), (0, 2, 1, 0)))), [(0, 2), (1, 3)])

    def test_a_one_way_street_alone_joins_nothing(self):
        self.assertEqual(parts((2, ((0, 1, 1, 1),))), [(0,), (1,)])
        self.assertEqual(parts((2, ((1, 0, 1, 1),))), [(0,), (1,)])
        self.assertEqual(parts((2, ((1, 0, 1, 1), (1, 0, 1, 1)))), [(0,), (1,)])

    def test_one_way_streets_there_and_back(self):
        self.assertEqual(parts((2, ((0, 1, 1, 1), (1, 0, 1, 1)))), [(0, 1)])

    def test_two_rings_with_a_one_way_street_between(self):
        rings = ((0, 4, 1, 1), (4, 2, 1, 1), (2, 0, 1, 1), (1, 3, 1, 0))
        self.assertEqual(parts((5, rings + ((0, 1, 1, 1),))), [(0, 2, 4), (1, 3)])
        self.assertEqual(parts((5, rings + ((0, 1, 1, 0),))), [(0, 1, 2, 3, 4)])

    def test_kinds_of_values(self):
        told = parts(RING)
        self.assertIs(type(told), list)
        self.assertEqual({type(lot) for lot in told}, {tuple})

    def test_against_the_slow_search(self):
        for town in some_towns(11, 150, range(1, 10), range(0, 17), 9):
            with self.subTest(town=town):
                self.assertEqual(parts(town), slow_parts(town))


class Bridges(unittest.TestCase):
    def test_no_streets(self):
        self.assertEqual(bridges((1, ())), [])
        self.assertEqual(bridges((9, ())), [])

    def test_a_two_way_street_alone(self):
        self.assertEqual(bridges((2, ((0, 1, 1, 0),))), [0])

    def test_of_two_of_the_same_ends_none(self):
        self.assertEqual(bridges((2, ((0, 1, 1, 0), (1, 0, 1, 0)))), [])

    def test_one_way_streets_there_and_back(self):
        self.assertEqual(bridges((2, ((0, 1, 1, 1), (1, 0, 1, 1)))), [0, 1])
        self.assertEqual(bridges((2, ((0, 1, 1, 1), (1, 0, 1, 1), (0, 1, 1, 1)))), [1])

    def test_a_one_way_street_beside_a_two_way_one(self):
        self.assertEqual(bridges((2, ((0, 1, 1, 1), (1, 0, 1, 0)))), [1])

    def test_what_joins_nothing_is_none(self):
        self.assertEqual(bridges((3, ((0, 1, 1, 1), (1, 2, 1, 0)))), [1])

    def test_a_ring_of_mixed_streets(self):
        self.assertEqual(bridges(RING), [0, 1, 2, 3])

    def test_a_ring_of_two_way_streets(self):
        ring = ((0, 1, 1, 0), (1, 2, 1, 0), (2, 0, 1, 0))
        self.assertEqual(bridges((4, ring + ((3, 0, 1, 0),))), [3])

    def test_kind_of_value(self):
        self.assertIs(type(bridges(RING)), list)

    def test_against_the_slow_search(self):
        towns = some_towns(12, 100, range(1, 10), range(0, 17), 9)
        towns += ring_towns(13, 50, range(2, 10), range(1, 17), 9)
        for town in towns:
            with self.subTest(town=town):
                self.assertEqual(bridges(town), slow_bridges(town))


if __name__ == "__main__":
    unittest.main()
