"""Point 1: what holds of the whole program."""

import copy
import subprocess
import sys
import unittest
from pathlib import Path

from refusals import refusal
from samples import RING, no_numbers, no_times, no_towns, ring_towns, some_towns

from streetrounds.desks import Desk
from streetrounds.errors import (
    BadDeed, BadText, BadTimes, BadTown, Halted, NoCorner, NoRound, NoStreet, NotOneWay, StreetError, TooMany, Uneven,
)
from streetrounds.notes import read, written
from streetrounds.pricing import priced, shows
from streetrounds.rounds import least
from streetrounds.towns import bridges, parts
from streetrounds.walks import fault, walk
from streetrounds.ways import far, way

ROOT = Path(__file__).resolve().parent.parent


def last_way(town):
    return way(town, 0, town[0] - 1)


def least_walk(town):
    return walk(town, least(town)[1], 0)


def fault_of_nothing(town):
    return fault(town, ())


def shown(town):
    return shows(town, least(town)[1], priced(town))


def desk_told(town):
    """Tell all that a desk of the town tells, behind a deed and some batches."""
    desk = Desk(town)
    told = [desk.long(), desk.batch([("lay", 0, (0, 1, 7, 0)), ("build", (1, 0, 3, 0)), ("close", 0)])]
    for keep in (True, False):
        try:
            desk.batch([("build", (0, 1, 2, 1)), ("close", 99)], keep=keep)
        except Halted as error:
            told.append(vars(error))
    return [*told, desk.town(), desk.long(), desk.book(), desk.is_idle()]


ASKED = (
    parts, bridges, far, last_way, least, least_walk, fault_of_nothing, priced, shown, written, desk_told,
)

# What is handed in where another kind is asked for.
ANYTHING = (
    None, True, False, -1, 17, 10 ** 30, 0.0, 1.5, "", "town 4", "build", (), (0,), (0, 1), ((),), [], [0], [[]],
    ((0, 0), (0, 0)), [("build", (0, 1, 1, 0))], ("build", (0, 1, 1, 0)),
)


def answer(asked, town):
    """Tell what the town was told, or the class and values of what refused it."""
    try:
        return asked(town)
    except StreetError as error:
        return type(error), vars(error)


def spoil(told):
    """Change all that can be changed in what was told."""
    if isinstance(told, list):
        for thing in told:
            spoil(thing)
        told.append("spoilt")
        told[0] = "spoilt"


def numbers_in(told):
    """Tell all that is in what was told and is no list or tuple."""
    if isinstance(told, (list, tuple)):
        return [number for thing in told for number in numbers_in(thing)]
    return [told]


class Whole(unittest.TestCase):
    def test_asked_again_the_same_is_told(self):
        towns = some_towns(51, 20, range(1, 8), range(0, 12), 9)
        towns += ring_towns(52, 10, range(2, 8), range(2, 12), 9)
        for asked in ASKED:
            first = [answer(asked, town) for town in towns]
            for town, told in zip(towns, first):
                with self.subTest(asked=asked.__name__, town=town):
                    self.assertEqual(answer(asked, town), told)

    def test_changing_what_was_told_changes_no_later_answer(self):
        for town in [RING, (1, ()), (3, ())] + ring_towns(53, 10, range(2, 8), range(2, 12), 9):
            for asked in ASKED:
                with self.subTest(asked=asked.__name__, town=town):
                    told = answer(asked, town)
                    kept = copy.deepcopy(told)
                    spoil(told)
                    self.assertEqual(answer(asked, town), kept)

    def test_the_rows_of_far_are_lists_apart(self):
        for town in (RING, (9, ())):
            told = far(town)
            self.assertEqual(len({id(row) for row in told}), town[0])

    def test_what_is_handed_in_is_not_changed(self):
        for town in [thing for thing, _ in no_towns()] + [RING]:
            kept = copy.deepcopy(town)
            for asked in (*ASKED, lambda town: way(town, 0, 0)):
                if asked is not last_way:
                    answer(asked, town)
                self.assertEqual(town, kept)

    def test_what_was_handed_in_may_be_changed_later(self):
        street = [0, 1, 5, 0]
        corner = [0]
        for town in ((2, (street,)), (2, [street]), [2, ((0, 1, 5, 0),)]):
            for asked in (parts, bridges, far, least, lambda town: way(town, corner, corner)):
                self.assertEqual(answer(asked, town)[0].__name__, "BadTown")
        street[0] = 1
        corner[0] = 9
        self.assertEqual(parts((2, ((0, 1, 5, 0),))), [(0, 1)])

    def test_what_is_refused_changes_nothing(self):
        for asked in ASKED:
            told = answer(asked, RING)
            for town, _ in no_towns()[:40]:
                with self.assertRaises(StreetError):
                    parts(town)
            self.assertEqual(answer(asked, RING), told)

    def test_numbers_alone_are_told(self):
        one_way = (3, ((0, 1, 1, 1), (1, 2, 2, 1), (2, 0, 3, 1), (0, 2, 4, 1)))
        for town in [RING, one_way] + ring_towns(54, 5, range(2, 8), range(2, 12), 9):
            for asked in (parts, bridges, far, last_way, least, least_walk):
                told = numbers_in(asked(town))
                self.assertEqual({type(number) for number in told} - {int}, set())
        self.assertEqual({type(price) for price in priced(one_way)}, {int})
        self.assertIs(type(Desk(one_way).long()), int)

    def test_what_a_desk_told_may_be_changed(self):
        desk = Desk(RING)
        told = desk.batch([("close", 0), ("build", (0, 1, 5, 0))])
        told += desk.book()
        kept = desk.town(), desk.long(), desk.book()
        spoil(told)
        spoil(desk.book())
        self.assertEqual((desk.town(), desk.long(), desk.book()), kept)

    def test_the_same_is_told_whatever_seed_python_hashes_by(self):
        script = (
            "from streetrounds.rounds import least\n"
            "from streetrounds.towns import bridges, parts\n"
            "from streetrounds.walks import walk\n"
            "from streetrounds.ways import far, way\n"
            f"town = {ring_towns(55, 1, (7,), (11,), 9)[2]!r}\n"
            "print(parts(town), bridges(town), far(town), way(town, 0, 6), least(town))\n"
            "print(walk(town, least(town)[1], 0))\n"
        )
        told = {run(script, seed) for seed in ("0", "1", "2")}
        self.assertEqual(len(told), 1)


class Anything(unittest.TestCase):
    """Where a refusal is told, it's told for whatever else is handed in."""

    def test_as_times(self):
        one_way = (3, ((0, 1, 1, 1), (1, 2, 1, 1), (2, 0, 1, 1)))
        for thing in ANYTHING:
            with self.subTest(thing=thing):
                refusal(self, BadTimes, walk, RING, thing, 0)
                refusal(self, BadTimes, shows, one_way, thing, (0, 0, 0))

    def test_as_a_corner(self):
        for thing in ANYTHING:
            with self.subTest(thing=thing):
                refusal(self, NoCorner, walk, RING, ((0, 0),) * 4, thing)
                refusal(self, NoCorner, way, RING, thing, 0)
                refusal(self, NoCorner, way, RING, 0, thing)

    def test_as_a_step(self):
        for thing in ANYTHING:
            if thing not in ((0, 1), (0, 0)):
                with self.subTest(thing=thing):
                    self.assertEqual(fault(RING, [thing]), ("step", 0))

    def test_as_prices(self):
        one_way = (3, ((0, 1, 1, 1), (1, 2, 1, 1), (2, 0, 1, 1)))
        for thing in ANYTHING:
            with self.subTest(thing=thing):
                self.assertIs(shows(one_way, ((1, 0),) * 3, thing), False)

    def test_as_a_street_or_its_number(self):
        for thing in ANYTHING:
            with self.subTest(thing=thing):
                desk = Desk(RING)
                self.assertEqual(refusal(self, BadTown, desk.build, thing), {"number": 4})
                self.assertEqual(refusal(self, BadTown, desk.lay, 2, thing), {"number": 2})
                refusal(self, NoStreet, desk.close, thing)
                refusal(self, NoStreet, desk.lay, thing, thing)
                self.assertEqual(desk.town(), RING)

    def test_as_deeds(self):
        for thing in ANYTHING:
            with self.subTest(thing=thing):
                if thing not in ([], [("build", (0, 1, 1, 0))]):
                    self.assertEqual(refusal(self, BadDeed, Desk(RING).batch, thing), {"number": 0})
                if thing != ("build", (0, 1, 1, 0)):
                    self.assertEqual(refusal(self, BadDeed, Desk(RING).batch, [thing]), {"number": 0})

    def test_as_a_town(self):
        for thing in ANYTHING:
            with self.subTest(thing=thing):
                for asked in (*ASKED, fault_of_nothing, Desk):
                    if asked is not last_way:
                        self.assertEqual(refusal(self, BadTown, asked, thing), {"number": -1})

    def test_as_a_text(self):
        for thing in ANYTHING:
            if thing != "town 4":
                with self.subTest(thing=thing):
                    self.assertEqual(refusal(self, BadText, read, thing), {"row": 0})


class Refusals(unittest.TestCase):
    """Each refusal is a StreetError and a ValueError, and none of the others."""

    def test_each_refusal(self):
        two, one = (0, 1, 1, 0), (0, 1, 1, 1)
        seven = (2, (two,) * 7)
        for kind, asked in (
            (BadTown, lambda: walk((0, ()), (), 0)),
            (BadTimes, lambda: walk(RING, (), 0)),
            (NoCorner, lambda: walk(RING, ((0, 0),) * 4, 4)),
            (Uneven, lambda: walk(RING, ((1, 0),) + ((0, 0),) * 3, 0)),
            (NoRound, lambda: walk(RING, ((1, 1),) + ((0, 0),) * 3, 2)),
            (NoRound, lambda: priced((2, ()))),
            (NotOneWay, lambda: priced(RING)),
            (NotOneWay, lambda: shows(RING, (), ())),
            (TooMany, lambda: Desk((2, (two,) * 7 + (one,)))),
            (TooMany, lambda: Desk(seven).build(one)),
            (NoStreet, lambda: Desk(RING).close(4)),
            (BadDeed, lambda: Desk(RING).batch([()])),
            (Halted, lambda: Desk(RING).batch([("close", 4)])),
            (BadText, lambda: read("")),
        ):
            with self.subTest(kind=kind):
                refusal(self, kind, asked)


class Unchanged(unittest.TestCase):
    def test_things_that_are_refused_are_not_changed(self):
        lists = [[], [0, 1, 5, 0], [[0, 1]], [("build", [0, 1, 5, 0])], [("close", 9), ("lay", 0, [])]]
        desk = Desk(RING)
        for thing in lists:
            kept = copy.deepcopy(thing)
            for asked in (
                lambda: walk(RING, thing, thing), lambda: shows(RING, thing, thing), lambda: fault(RING, thing),
                lambda: desk.build(thing), lambda: desk.lay(0, thing), lambda: desk.close(thing),
                lambda: desk.batch(thing), lambda: desk.batch(thing, keep=False), lambda: read(thing),
            ):
                answer(lambda _: asked(), None)
                self.assertEqual(thing, kept)
        self.assertEqual(desk.town(), RING)

    def test_things_that_are_taken_are_not_changed(self):
        deeds = [("close", 0), ("build", (0, 1, 5, 0)), ("lay", 0, (1, 2, 9, 1))]
        steps = [(0, 0), (1, 0), (2, 0), (3, 0)]
        kept = copy.deepcopy((deeds, steps))
        Desk(RING).batch(deeds)
        self.assertIsNone(fault(RING, steps))
        self.assertEqual((deeds, steps), kept)

    def test_what_was_refused_can_be_told_again(self):
        for times, _ in no_times(RING)[:30]:
            kept = copy.deepcopy(times)
            first = answer(lambda town: walk(town, times, 0), RING)
            self.assertEqual(answer(lambda town: walk(town, times, 0), RING), first)
            self.assertEqual(times, kept)
        for number in no_numbers(3):
            self.assertEqual(answer(lambda town: Desk(town).close(number), RING), (NoStreet, {}))


def run(script, seed):
    surroundings = {"PYTHONPATH": str(ROOT), "PYTHONHASHSEED": seed, "PYTHONDONTWRITEBYTECODE": "1"}
    done = subprocess.run(
        [sys.executable, "-c", script], env=surroundings, capture_output=True, text=True, check=True
    )
    return done.stdout


if __name__ == "__main__":
    unittest.main()
