"""The interface: each name in its file, with the arguments that are listed."""

import ast
import inspect
import unittest
from pathlib import Path

from streetrounds import desks, errors, notes, pricing, rounds, towns, walks, ways

PACKAGE = Path(__file__).resolve().parent.parent / "streetrounds"

FUNCTIONS = {
    towns: {"parts": ["town"], "bridges": ["town"]},
    ways: {"far": ["town"], "way": ["town", "begin", "end"]},
    rounds: {"least": ["town"]},
    walks: {"walk": ["town", "times", "start"], "fault": ["town", "steps"]},
    pricing: {"priced": ["town"], "shows": ["town", "times", "prices"]},
    notes: {"written": ["town"], "read": ["text"]},
}
METHODS = {
    "town": [],
    "long": [],
    "build": ["street"],
    "close": ["number"],
    "lay": ["number", "street"],
    "batch": ["deeds", "keep"],
    "book": [],
    "is_idle": [],
}
RING = (3, ((0, 1, 1, 1), (1, 2, 1, 1), (2, 0, 1, 1)))


def defined(name):
    """Tell the functions and classes that stand at the top of the package's file."""
    rows = ast.parse((PACKAGE / name).read_text()).body
    return [row.name for row in rows if isinstance(row, (ast.FunctionDef, ast.ClassDef))]


class Interface(unittest.TestCase):
    def test_functions_stand_in_their_files(self):
        for module, names in FUNCTIONS.items():
            for name in names:
                self.assertIn(name, defined(Path(module.__file__).name))

    def test_error_classes_stand_in_their_file(self):
        for name in (
            "StreetError", "BadTown", "BadTimes", "NotOneWay", "BadDeed", "Halted",
            "Uneven", "BadText", "NoCorner", "NoStreet", "NoRound", "TooMany",
        ):
            self.assertIn(name, defined("errors.py"))
            self.assertTrue(issubclass(getattr(errors, name), Exception))

    def test_arguments_have_their_names_and_order(self):
        for module, names in FUNCTIONS.items():
            for name, arguments in names.items():
                told = inspect.signature(getattr(module, name)).parameters
                self.assertEqual(list(told), arguments)

    def test_the_desk_stands_in_its_file_with_its_own_methods(self):
        self.assertIn("Desk", defined("desks.py"))
        self.assertEqual(list(inspect.signature(desks.Desk).parameters), ["town"])
        for name, arguments in METHODS.items():
            told = inspect.signature(vars(desks.Desk)[name]).parameters
            self.assertEqual(list(told), ["self", *arguments])

    def test_keep_stands_behind_the_star_and_is_true_if_not_told(self):
        keep = inspect.signature(desks.Desk.batch).parameters["keep"]
        self.assertIs(keep.kind, keep.KEYWORD_ONLY)
        self.assertIs(keep.default, True)

    def test_arguments_may_be_handed_in_by_name(self):
        self.assertEqual(towns.parts(town=RING), [(0, 1, 2)])
        self.assertEqual(towns.bridges(town=RING), [0, 1, 2])
        self.assertEqual(ways.far(town=RING), [[0, 1, 2], [2, 0, 1], [1, 2, 0]])
        self.assertEqual(ways.way(end=2, begin=1, town=RING), (1, ((1, 0),)))
        times = ((1, 0), (1, 0), (1, 0))
        self.assertEqual(rounds.least(town=RING), (3, times))
        self.assertEqual(walks.walk(start=1, times=times, town=RING), ((1, 0), (2, 0), (0, 0)))
        self.assertIsNone(walks.fault(steps=((0, 0), (1, 0), (2, 0)), town=RING))
        self.assertIs(pricing.shows(prices=pricing.priced(town=RING), times=times, town=RING), True)
        self.assertEqual(notes.read(text=notes.written(town=RING)), RING)


if __name__ == "__main__":
    unittest.main()
