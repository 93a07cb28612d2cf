"""Point 8: prices, and whether they show times least."""

import random
import unittest

from refusals import refusal
from samples import ONE_WAY, TWO_WAY, no_times, ring_town, ring_towns, some_towns
from slow import slow_least, slow_parts, slow_shows

from streetrounds.errors import BadTimes, BadTown, NoRound, NotOneWay
from streetrounds.pricing import priced, shows
from streetrounds.rounds import least

# Street 1 is gone three times, once for itself, twice for streets 0 and 2.
TOWN = (3, ((0, 1, 5, 1), (1, 0, 7, 1), (0, 1, 9, 1), (0, 2, 1, 1), (2, 1, 1, 1)))
TIMES = ((1, 0), (3, 0), (1, 0), (1, 0), (1, 0))
PRICES = (7, 0, 6)


def one_way_towns(seed, many, corners, streets, longest):
    """Tell one-way towns of one part."""
    chance = random.Random(seed)
    found = []
    for _ in range(many):
        size = chance.choice(corners)
        found.append(ring_town(chance, ONE_WAY, size, max(size, chance.choice(streets)), longest))
    return found


class Priced(unittest.TestCase):
    def assert_priced(self, town):
        _, times = least(town)
        told = priced(town)
        self.assertIs(type(told), tuple)
        self.assertEqual({type(price) for price in told}, {int})
        self.assertEqual(min(told), 0)
        self.assertTrue(slow_shows(town, times, told))
        self.assertIs(shows(town, times, told), True)

    def test_no_streets(self):
        self.assertEqual(priced((1, ())), (0,))

    def test_a_ring_has_nothing_to_go_anew(self):
        self.assert_priced((3, ((0, 1, 2, 1), (1, 2, 3, 1), (2, 0, 4, 1))))

    def test_a_street_gone_anew_fixes_how_far_prices_rise(self):
        told = priced((2, ((0, 1, 99, 1),) * 15 + ((1, 0, 98, 1),)))
        self.assertEqual(told, (98, 0))
        told = priced(TOWN)
        self.assertEqual((told[0], told[1]), (7, 0))
        self.assert_priced(TOWN)

    def test_prices_as_far_apart_as_can_be(self):
        ring = tuple((corner, (corner + 1) % 9, 99, 1) for corner in range(9))
        town = (9, ring + ((8, 0, 99, 1),) * 7)
        self.assert_priced(town)
        self.assertEqual(priced(town), tuple(99 * corner for corner in range(9)))

    def test_prices_show_the_times_of_least_rounds(self):
        for town in one_way_towns(81, 150, range(2, 10), range(2, 17), 99):
            with self.subTest(town=town):
                self.assert_priced(town)

    def test_short_streets(self):
        for town in one_way_towns(82, 150, range(2, 7), range(2, 17), 2):
            with self.subTest(town=town):
                self.assert_priced(town)

    def test_asked_again_the_same_is_told(self):
        for town in one_way_towns(83, 10, range(2, 10), range(2, 17), 99):
            self.assertEqual(priced(town), priced(town))

    def test_no_round(self):
        for town in ((2, ()), (9, ()), (2, ((0, 1, 1, 1),)), (3, ((0, 1, 1, 1), (1, 0, 1, 1)))):
            self.assertEqual(refusal(self, NoRound, priced, town), {})

    def test_not_one_way(self):
        ring = ((0, 1, 1, 1), (1, 2, 1, 1), (2, 0, 1, 1))
        for number in range(4):
            streets = (*ring[:number], (0, 1, 1, 0), *ring[number:])
            self.assertEqual(refusal(self, NotOneWay, priced, (3, streets)), {"number": number})
            self.assertEqual(refusal(self, NotOneWay, priced, (3, (*streets, (1, 2, 1, 0)))), {"number": number})

    def test_too_many_two_way_streets_are_not_one_way_either(self):
        town = (2, ((0, 1, 1, 1),) + ((0, 1, 1, 0),) * 7)
        self.assertEqual(refusal(self, NotOneWay, priced, town), {"number": 1})
        self.assertEqual(refusal(self, NotOneWay, priced, (2, ((0, 1, 1, 0),) * 16)), {"number": 0})

    def test_the_order_of_refusals(self):
        bad = (3, ((0, 1, 1, 0), (1, 1, 1, 1)))
        self.assertEqual(refusal(self, BadTown, priced, bad), {"number": 1})
        self.assertEqual(refusal(self, NoRound, priced, (3, ((0, 1, 1, 0),))), {})
        self.assertEqual(refusal(self, NoRound, priced, (3, ((0, 1, 1, 0), (1, 2, 1, 1)))), {})

    def test_towns_of_any_kind(self):
        for town in some_towns(84, 60, range(1, 5), range(0, 9), 9):
            with self.subTest(town=town):
                two_way = [number for number, street in enumerate(town[1]) if street[3] == 0]
                if len(slow_parts(town)) > 1:
                    self.assertEqual(refusal(self, NoRound, priced, town), {})
                elif two_way:
                    self.assertEqual(refusal(self, NotOneWay, priced, town), {"number": two_way[0]})
                else:
                    self.assert_priced(town)


class Shows(unittest.TestCase):
    def assert_shows(self, town, times, prices, told):
        self.assertIs(slow_shows(town, times, prices), told)
        self.assertIs(shows(town, times, prices), told)

    def test_prices_that_show_times(self):
        self.assert_shows(TOWN, TIMES, PRICES, True)
        self.assert_shows((1, ()), (), (0,), True)
        self.assert_shows((2, ((0, 1, 3, 1), (1, 0, 4, 1))), ((1, 0), (1, 0)), (0, 0), True)

    def test_prices_may_all_be_more_or_less(self):
        for more in (-99999, -8, -1, 1, 99992):
            prices = tuple(price + more for price in PRICES)
            self.assert_shows(TOWN, TIMES, prices, True)

    def test_prices_at_their_bounds(self):
        self.assert_shows((1, ()), (), (99999,), True)
        self.assert_shows((1, ()), (), (-99999,), True)
        self.assert_shows((1, ()), (), (100000,), False)
        self.assert_shows((1, ()), (), (-100000,), False)
        self.assert_shows(TOWN, TIMES, tuple(price + 99993 for price in PRICES), False)
        self.assert_shows(TOWN, TIMES, tuple(price - 100000 for price in PRICES), False)

    def test_a_price_too_much_above_that_of_the_from_corner(self):
        ring = (2, ((0, 1, 3, 1), (1, 0, 4, 1)))
        times = ((1, 0), (1, 0))
        for rise in range(-6, 6):
            self.assert_shows(ring, times, (0, rise), -4 <= rise <= 3)

    def test_what_does_not_come_to_the_same(self):
        self.assert_shows(TOWN, TIMES, (6, 0, 6), False)
        self.assert_shows(TOWN, ((2, 0), (4, 0), (1, 0), (1, 0), (1, 0)), PRICES, False)
        # As many streets begin in corner 2 as end there, so its price is free but for how far it rises.
        self.assert_shows(TOWN, TIMES, (7, 0, 8), True)
        self.assert_shows(TOWN, TIMES, (7, 0, 9), False)

    def test_a_street_that_is_not_gone(self):
        self.assert_shows(TOWN, ((0, 0),) * 5, PRICES, False)
        self.assert_shows(TOWN, ((1, 0), (3, 0), (2, 0), (0, 0), (0, 0)), PRICES, False)
        town = (2, ((0, 1, 1, 1), (1, 0, 1, 1), (0, 1, 1, 1), (1, 0, 1, 1)))
        self.assert_shows(town, ((1, 0),) * 4, (0, 0), True)
        self.assert_shows(town, ((0, 0), (1, 0), (2, 0), (1, 0)), (0, 0), False)
        self.assert_shows(town, ((0, 0), (0, 0), (2, 0), (2, 0)), (0, 0), False)

    def test_a_corner_left_otherwise_often_than_come_to(self):
        self.assert_shows((2, ((0, 1, 1, 1),)), ((1, 0),), (0, 0), False)
        self.assert_shows(TOWN, ((1, 0),) * 5, (0, 0, 0), False)
        # By the lengths alone this would come to the same.
        town = (2, ((0, 1, 2, 1), (0, 1, 2, 1), (1, 0, 2, 1)))
        self.assert_shows(town, ((1, 0), (1, 0), (2, 0)), (2, 0), True)
        self.assert_shows(town, ((2, 0), (1, 0), (1, 0)), (2, 0), False)
        self.assert_shows(town, ((1, 0), (2, 0), (1, 0)), (2, 0), False)

    def test_a_town_of_several_parts(self):
        town = (4, ((0, 1, 1, 1), (1, 0, 1, 1), (2, 3, 1, 1), (3, 2, 1, 1)))
        self.assert_shows(town, ((1, 0),) * 4, (0, 0, 50, 50), True)
        self.assert_shows(town, ((1, 0),) * 4, (0, 0, 50, 52), False)

    def test_what_are_no_prices(self):
        things = [None, True, False, 0, 7, 2.5, "", "706", b"706", [], list(PRICES), {0: 7}, (PRICES,)]
        things += [(), PRICES[:2], (*PRICES, 0), (*PRICES, None), (None,) * 3]
        odd = [None, True, False, 0.0, 7.0, "7", "", [], [7], (), (7,), 100000, -100000, 10 ** 30, -10 ** 30]
        for place in range(3):
            things += [(*PRICES[:place], thing, *PRICES[place + 1:]) for thing in odd]
        for prices in things:
            with self.subTest(prices=prices):
                self.assertIs(shows(TOWN, TIMES, prices), False)

    def test_truths_are_no_prices(self):
        town = (2, ((0, 1, 1, 1), (0, 1, 1, 1), (1, 0, 1, 1)))
        times = ((1, 0), (1, 0), (2, 0))
        self.assert_shows(town, times, (1, 0), True)
        for prices in ((True, 0), (1, False), (True, False)):
            self.assert_shows(town, times, prices, False)

    def test_what_are_no_times(self):
        for times, number in no_times(TOWN):
            for prices in (PRICES, None):
                with self.subTest(times=times, prices=prices):
                    told = refusal(self, BadTimes, shows, TOWN, times, prices)
                    self.assertEqual(told, {"number": number})

    def test_not_one_way(self):
        for number in range(5):
            streets = list(TOWN[1])
            streets[number] = (*streets[number][:3], 0)
            for times in (TIMES, None, ()):
                told = refusal(self, NotOneWay, shows, (3, tuple(streets)), times, PRICES)
                self.assertEqual(told, {"number": number})
        town = (2, ((0, 1, 1, 0),) * 16)
        self.assertEqual(refusal(self, NotOneWay, shows, town, None, None), {"number": 0})

    def test_a_bad_town_is_refused_ahead_of_all(self):
        bad = (3, ((0, 1, 1, 0), (1, 1, 1, 1)))
        self.assertEqual(refusal(self, BadTown, shows, bad, None, None), {"number": 1})

    def test_told_otherwise_by_a_little(self):
        chance = random.Random(85)
        seen = []
        for town in one_way_towns(86, 120, range(2, 7), range(2, 13), 4):
            _, times = least(town)
            prices = priced(town)
            for _ in range(6):
                other = [list(pair) for pair in times]
                if chance.randint(0, 1):
                    other[chance.randrange(len(other))][0] += chance.choice((-1, 1))
                costs = list(prices)
                costs[chance.randrange(town[0])] += chance.choice((-1, 0, 0, 1))
                told = slow_shows(town, tuple(map(tuple, other)), tuple(costs))
                with self.subTest(town=town, times=other, prices=costs):
                    self.assertIs(shows(town, tuple(map(tuple, other)), tuple(costs)), told)
                seen.append(told)
        self.assertGreater(seen.count(True), 50)
        self.assertGreater(seen.count(False), 50)

    def test_what_is_shown_least_is_least(self):
        chance = random.Random(87)
        shown = 0
        for town in one_way_towns(88, 40, range(2, 4), range(2, 5), 3):
            for _ in range(60):
                times = tuple((chance.randint(0, 3), 0) for _ in town[1])
                prices = tuple(chance.randint(0, 3) for _ in range(town[0]))
                told = shows(town, times, prices)
                self.assertIs(told, slow_shows(town, times, prices))
                if told:
                    shown += 1
                    long = sum(street[2] * pair[0] for street, pair in zip(town[1], times))
                    self.assertEqual(long, slow_least(town))
        self.assertGreater(shown, 10)

    def test_two_way_towns_of_one_part(self):
        chance = random.Random(89)
        for _ in range(10):
            town = ring_town(chance, TWO_WAY, 4, 6, 9)
            self.assertEqual(refusal(self, NotOneWay, priced, town), {"number": 0})
        for town in ring_towns(90, 10, range(2, 6), range(2, 9), 9):
            first = [number for number, street in enumerate(town[1]) if street[3] == 0]
            if first:
                self.assertEqual(refusal(self, NotOneWay, priced, town), {"number": first[0]})


if __name__ == "__main__":
    unittest.main()
