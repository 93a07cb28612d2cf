"""Point 1: what holds of the whole program."""

import copy
import subprocess
import sys
import unittest
from pathlib import Path

from samples import RING, no_towns, ring_towns, some_towns

from streetrounds.errors import StreetError
from streetrounds.rounds import least
from streetrounds.towns import bridges, parts
from streetrounds.ways import far, way

ROOT = Path(__file__).resolve().parent.parent


def last_way(town):
    return way(town, 0, town[0] - 1)


ASKED = (parts, bridges, far, last_way, least)


def answer(asked, town):
    """Tell what the town was told, or the class and values of what refused it."""
    try:
        return asked(town)
    except StreetError as error:
        return type(error), vars(error)


def spoil(told):
    """Change all that can be changed in what was told."""
    if isinstance(told, list):
        for thing in told:
            spoil(thing)
        told.append("spoilt")
        told[0] = "spoilt"


def numbers_in(told):
    """Tell all that is in what was told and is no list or tuple."""
    if isinstance(told, (list, tuple)):
        return [number for thing in told for number in numbers_in(thing)]
    return [told]


class Whole(unittest.TestCase):
    def test_asked_again_the_same_is_told(self):
        towns = some_towns(51, 20, range(1, 8), range(0, 12), 9)
        towns += ring_towns(52, 10, range(2, 8), range(2, 12), 9)
        for asked in ASKED:
            first = [answer(asked, town) for town in towns]
            for town, told in zip(towns, first):
                with self.subTest(asked=asked.__name__, town=town):
                    self.assertEqual(answer(asked, town), told)

    def test_changing_what_was_told_changes_no_later_answer(self):
        for town in [RING, (1, ()), (3, ())] + ring_towns(53, 10, range(2, 8), range(2, 12), 9):
            for asked in ASKED:
                with self.subTest(asked=asked.__name__, town=town):
                    told = answer(asked, town)
                    kept = copy.deepcopy(told)
                    spoil(told)
                    self.assertEqual(answer(asked, town), kept)

    def test_the_rows_of_far_are_lists_apart(self):
        for town in (RING, (9, ())):
            told = far(town)
            self.assertEqual(len({id(row) for row in told}), town[0])

    def test_what_is_handed_in_is_not_changed(self):
        for town in [thing for thing, _ in no_towns()] + [RING]:
            kept = copy.deepcopy(town)
            for asked in (parts, bridges, far, least, lambda town: way(town, 0, 0)):
                answer(asked, town)
                self.assertEqual(town, kept)

    def test_what_was_handed_in_may_be_changed_later(self):
        street = [0, 1, 5, 0]
        corner = [0]
        for town in ((2, (street,)), (2, [street]), [2, ((0, 1, 5, 0),)]):
            for asked in (parts, bridges, far, least, lambda town: way(town, corner, corner)):
                self.assertEqual(answer(asked, town)[0].__name__, "BadTown")
        street[0] = 1
        corner[0] = 9
        self.assertEqual(parts((2, ((0, 1, 5, 0),))), [(0, 1)])

    def test_what_is_refused_changes_nothing(self):
        for asked in ASKED:
            told = answer(asked, RING)
            for town, _ in no_towns()[:40]:
                with self.assertRaises(StreetError):
                    parts(town)
            self.assertEqual(answer(asked, RING), told)

    def test_numbers_alone_are_told(self):
        for town in [RING] + ring_towns(54, 5, range(2, 8), range(2, 12), 9):
            for asked in ASKED:
                told = numbers_in(answer(asked, town))
                self.assertEqual({type(number) for number in told} - {int}, set())

    def test_the_same_is_told_whatever_seed_python_hashes_by(self):
        script = (
            "from streetrounds.rounds import least\n"
            "from streetrounds.towns import bridges, parts\n"
            "from streetrounds.ways import far, way\n"
            f"town = {ring_towns(55, 1, (7,), (11,), 9)[2]!r}\n"
            "print(parts(town), bridges(town), far(town), way(town, 0, 6), least(town))\n"
        )
        told = {run(script, seed) for seed in ("0", "1", "2")}
        self.assertEqual(len(told), 1)


def run(script, seed):
    surroundings = {"PYTHONPATH": str(ROOT), "PYTHONHASHSEED": seed, "PYTHONDONTWRITEBYTECODE": "1"}
    done = subprocess.run(
        [sys.executable, "-c", script], env=surroundings, capture_output=True, text=True, check=True
    )
    return done.stdout


if __name__ == "__main__":
    unittest.main()
