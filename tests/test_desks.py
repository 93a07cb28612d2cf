"""Point 9: desks that build, close and lay streets."""

import random
import unittest

from refusals import refusal
from samples import RING, bound_towns, no_numbers, no_towns, ring_towns, some_towns
from slow import slow_least

from streetrounds.desks import Desk
from streetrounds.errors import BadTown, NoStreet, TooMany
from streetrounds.rounds import least

# What can be no street of a town of four corners.
NO_STREETS = [None, True, 0, 1.5, "", "0151", [], (), (0, 1, 5), (0, 1, 5, 0, 0), [0, 1, 5, 0]]
NO_STREETS += [(4, 1, 5, 0), (0, 4, 5, 0), (-1, 1, 5, 0), (1, 1, 5, 0), (0, 1, 0, 0), (0, 1, 100, 0)]
NO_STREETS += [(0, 1, 5, 2), (0, 1, 5, -1), (True, 0, 5, 0), (0, True, 5, 0), (0, 1, True, 0), (0, 1, 5, True)]
NO_STREETS += [(None, 1, 5, 0), (0, "1", 5, 0), (0, 1, 5.0, 0), (0, 1, [5], 0), (0, 1, 5, None)]

TWO = (0, 1, 5, 0)
ONE = (0, 1, 5, 1)


def is_too_many(streets):
    two_way = sum(street[3] == 0 for street in streets)
    return two_way > 6 and two_way < len(streets)


def some_desk_towns(seed, many):
    """Tell towns of few streets that a desk takes, and others that have no round."""
    towns = some_towns(seed, many, range(1, 5), range(0, 7), 9)
    return [town for town in towns if not is_too_many(town[1])]


class Making(unittest.TestCase):
    def test_the_town_is_told_as_it_was_handed_in(self):
        for town in bound_towns() + ring_towns(101, 10, range(2, 8), range(2, 14), 99):
            if not is_too_many(town[1]):
                self.assertEqual(Desk(town).town(), town)

    def test_kinds_of_values(self):
        corners, streets = Desk(RING).town()
        self.assertIs(type(Desk(RING).town()), tuple)
        self.assertIs(type(corners), int)
        self.assertIs(type(streets), tuple)
        self.assertEqual({type(street) for street in streets}, {tuple})

    def test_long_is_that_of_a_least_round(self):
        self.assertEqual(Desk(RING).long(), 112)
        self.assertEqual(Desk((1, ())).long(), 0)
        for town in some_desk_towns(102, 40):
            with self.subTest(town=town):
                self.assertEqual(Desk(town).long(), slow_least(town))

    def test_long_is_none_where_there_is_no_round(self):
        for town in ((2, ()), (9, ()), (2, (ONE,)), (3, (TWO,)), (2, (ONE,) * 16)):
            self.assertIsNone(Desk(town).long())

    def test_a_bad_town(self):
        for town, number in no_towns():
            with self.subTest(town=town):
                self.assertEqual(refusal(self, BadTown, Desk, town), {"number": number})

    def test_too_many(self):
        for many in range(7, 16):
            self.assertEqual(refusal(self, TooMany, Desk, (2, (TWO,) * many + (ONE,))), {})
            self.assertEqual(refusal(self, TooMany, Desk, (2, (ONE,) + (TWO,) * many)), {})
        Desk((2, (TWO,) * 16))
        Desk((2, (TWO,) * 6 + (ONE,) * 10))

    def test_too_many_whether_there_are_rounds_or_not(self):
        self.assertEqual(refusal(self, TooMany, Desk, (3, (TWO,) * 7 + (ONE,))), {})
        self.assertEqual(refusal(self, TooMany, Desk, (9, (TWO,) * 15 + ((3, 4, 1, 1),))), {})

    def test_a_bad_town_is_refused_ahead_of_too_many(self):
        self.assertEqual(refusal(self, BadTown, Desk, (2, (TWO,) * 7 + (ONE, None))), {"number": 8})
        self.assertEqual(refusal(self, BadTown, Desk, (2, (TWO,) * 16 + (ONE,))), {"number": 16})

    def test_the_town_may_be_handed_in_by_name(self):
        self.assertEqual(Desk(town=RING).town(), RING)


class Deeds(unittest.TestCase):
    def test_build_puts_a_street_behind_all(self):
        desk = Desk((2, ()))
        self.assertEqual(desk.build((0, 1, 7, 0)), 14)
        self.assertEqual(desk.town(), (2, ((0, 1, 7, 0),)))
        self.assertEqual(desk.build((1, 0, 5, 1)), 12)
        self.assertEqual(desk.town(), (2, ((0, 1, 7, 0), (1, 0, 5, 1))))
        self.assertEqual(desk.long(), 12)

    def test_build_tells_none_where_there_is_no_round(self):
        desk = Desk((3, ()))
        self.assertIsNone(desk.build((0, 1, 1, 0)))
        self.assertIsNone(desk.build((1, 2, 1, 1)))
        self.assertEqual(desk.build((2, 0, 1, 1)), 3)

    def test_build_up_to_sixteen_streets(self):
        desk = Desk((2, ()))
        for many in range(1, 17):
            self.assertEqual(desk.build((0, 1, 5, 0)), 5 * (many + many % 2))
        self.assertEqual(desk.town(), (2, (TWO,) * 16))

    def test_close_takes_a_street_out(self):
        town = (2, ((0, 1, 1, 0), (0, 1, 2, 1), (1, 0, 3, 1), (0, 1, 4, 0)))
        for number in range(4):
            desk = Desk(town)
            left = (2, town[1][:number] + town[1][number + 1:])
            self.assertEqual(desk.close(number), slow_least(left))
            self.assertEqual(desk.town(), left)
            self.assertEqual(desk.long(), slow_least(left))

    def test_streets_behind_a_closed_one_have_numbers_less_by_one(self):
        desk = Desk(RING)
        desk.close(0)
        desk.close(0)
        self.assertEqual(desk.town(), (4, RING[1][2:]))
        desk.close(1)
        self.assertEqual(desk.town(), (4, RING[1][2:3]))

    def test_close_down_to_no_street(self):
        desk = Desk((2, (TWO, TWO)))
        self.assertEqual(desk.close(1), 10)
        self.assertIsNone(desk.close(0))
        self.assertEqual(desk.town(), (2, ()))
        self.assertIsNone(desk.long())

    def test_lay_makes_a_street_another_one(self):
        street = (2, 1, 9, 0)
        for number in range(4):
            desk = Desk(RING)
            laid = (4, (*RING[1][:number], street, *RING[1][number + 1:]))
            self.assertEqual(desk.lay(number, street), slow_least(laid))
            self.assertEqual(desk.town(), laid)
            self.assertEqual(desk.long(), slow_least(laid))

    def test_things_may_be_handed_in_by_name(self):
        desk = Desk(RING)
        desk.build(street=TWO)
        desk.lay(street=ONE, number=4)
        self.assertEqual(desk.town(), (4, (*RING[1], ONE)))
        desk.close(number=4)
        self.assertEqual(desk.town(), RING)

    def test_deeds_by_chance(self):
        chance = random.Random(103)
        for town in some_desk_towns(104, 12):
            desk = Desk(town)
            corners, streets = town
            for _ in range(8):
                street = (chance.randint(0, 4), chance.randint(0, 4), chance.randint(1, 9), chance.randint(0, 1))
                number = chance.randint(-1, len(streets))
                streets = self.assert_deed(desk, corners, streets, chance.choice("bcl"), number, street)

    def assert_deed(self, desk, corners, streets, word, number, street):
        """Do a deed at the desk and beside it, and tell the streets behind it."""
        is_bad = street[0] == street[1] or max(street[:2]) >= corners
        if word != "b" and not 0 <= number < len(streets):
            asked = (desk.close, number) if word == "c" else (desk.lay, number, street)
            refusal(self, NoStreet, *asked)
            behind = streets
        elif word == "c":
            behind = streets[:number] + streets[number + 1:]
            self.assertEqual(desk.close(number), slow_least((corners, behind)))
        else:
            place = len(streets) if word == "b" else number
            asked = (desk.build, street) if word == "b" else (desk.lay, number, street)
            behind = (*streets[:place], street, *streets[place + 1:])
            if is_bad:
                self.assertEqual(refusal(self, BadTown, *asked), {"number": place})
            elif is_too_many(behind):
                refusal(self, TooMany, *asked)
            else:
                self.assertEqual(asked[0](*asked[1:]), slow_least((corners, behind)))
            if is_bad or is_too_many(behind):
                behind = streets
        self.assertEqual(desk.town(), (corners, behind))
        self.assertEqual(desk.long(), slow_least((corners, behind)))
        return behind


class DeedsRefused(unittest.TestCase):
    def assert_refused(self, town, kind, values, word, *things):
        """See that a desk's deed is refused with these values, and changes nothing."""
        desk = Desk(town)
        long = desk.long()
        self.assertEqual(refusal(self, kind, getattr(desk, word), *things), values)
        self.assertEqual(desk.town(), town)
        self.assertEqual(desk.long(), long)
        self.assertEqual(desk.book(), [])
        self.assertIs(desk.is_idle(), True)

    def test_what_is_no_street_to_build(self):
        for many in range(5):
            town = (4, RING[1][:many])
            for street in NO_STREETS:
                with self.subTest(many=many, street=street):
                    self.assert_refused(town, BadTown, {"number": many}, "build", street)

    def test_what_is_no_street_to_lay(self):
        for number in range(4):
            for street in NO_STREETS:
                with self.subTest(number=number, street=street):
                    self.assert_refused(RING, BadTown, {"number": number}, "lay", number, street)

    def test_a_seventeenth_street(self):
        for street in (TWO, ONE, None, (0, 0, 1, 0)):
            self.assert_refused((2, (TWO,) * 16), BadTown, {"number": 16}, "build", street)
        self.assert_refused((2, (ONE,) * 16), BadTown, {"number": 16}, "build", ONE)

    def test_numbers_that_are_none(self):
        for number in no_numbers(3):
            with self.subTest(number=number):
                self.assert_refused(RING, NoStreet, {}, "close", number)
                self.assert_refused(RING, NoStreet, {}, "lay", number, TWO)
        for number in (0, 1, -1):
            self.assert_refused((1, ()), NoStreet, {}, "close", number)
            self.assert_refused((2, ()), NoStreet, {}, "lay", number, TWO)

    def test_too_many_by_building(self):
        self.assert_refused((2, (TWO,) * 7), TooMany, {}, "build", ONE)
        self.assert_refused((2, (TWO,) * 15), TooMany, {}, "build", ONE)
        self.assert_refused((2, (TWO,) * 6 + (ONE,)), TooMany, {}, "build", TWO)
        self.assert_refused((9, (TWO,) * 6 + (ONE,)), TooMany, {}, "build", TWO)

    def test_too_many_by_laying(self):
        self.assert_refused((2, (TWO,) * 8), TooMany, {}, "lay", 3, ONE)
        self.assert_refused((2, (TWO,) * 16), TooMany, {}, "lay", 0, ONE)
        self.assert_refused((2, (TWO,) * 6 + (ONE,) * 2), TooMany, {}, "lay", 6, TWO)
        self.assert_refused((9, (TWO,) * 6 + (ONE,) * 2), TooMany, {}, "lay", 7, TWO)

    def test_what_is_just_not_too_many(self):
        for town, word, things in (
            ((2, (TWO,) * 6), "build", (ONE,)),
            ((2, (TWO,) * 6 + (ONE,) * 9), "build", (ONE,)),
            ((2, (TWO,) * 15), "build", (TWO,)),
            ((2, (TWO,) * 7), "lay", (0, ONE)),
            ((2, (TWO,) * 6 + (ONE,)), "lay", (6, TWO)),
            ((2, (TWO,) * 6 + (ONE,)), "close", (6,)),
        ):
            with self.subTest(town=town, word=word):
                desk = Desk(town)
                told = getattr(desk, word)(*things)
                self.assertEqual(told, least(desk.town())[0])

    def test_the_order_of_refusals(self):
        self.assert_refused((2, (TWO,) * 7), BadTown, {"number": 7}, "build", (0, 1, 100, 1))
        self.assert_refused((2, (TWO,) * 8), NoStreet, {}, "lay", 8, (0, 0, 1, 1))
        self.assert_refused((2, (TWO,) * 8), NoStreet, {}, "lay", 8, ONE)
        self.assert_refused((2, (TWO,) * 8), BadTown, {"number": 2}, "lay", 2, (0, 0, 1, 1))
        self.assert_refused((2, (TWO,) * 8), TooMany, {}, "lay", 2, ONE)


class Apart(unittest.TestCase):
    def test_two_desks_of_one_town_stand_apart(self):
        one, other = Desk(RING), Desk(RING)
        one.close(0)
        self.assertEqual(other.town(), RING)
        other.batch([("lay", 0, TWO)])
        self.assertEqual(one.town(), (4, RING[1][1:]))
        self.assertEqual(one.book(), [])
        self.assertIsNone(one.long())
        self.assertEqual(other.long(), 112)

    def test_a_desk_and_a_desk_made_of_its_town_stand_apart(self):
        one = Desk(RING)
        other = Desk(one.town())
        other.build(TWO)
        self.assertEqual(one.town(), RING)

    def test_a_desk_and_its_town_stand_apart(self):
        town = (4, tuple(tuple(street) for street in RING[1]))
        desk = Desk(town)
        told = desk.town()
        desk.build(TWO)
        desk.close(0)
        desk.lay(0, ONE)
        self.assertEqual(town, RING)
        self.assertEqual(told, RING)

    def test_a_list_that_was_refused_as_a_street_is_not_kept(self):
        desk = Desk(RING)
        street = [0, 1, 5, 0]
        refusal(self, BadTown, desk.build, street)
        street[0] = 3
        self.assertEqual(desk.town(), RING)


if __name__ == "__main__":
    unittest.main()
