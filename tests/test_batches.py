"""Point 10: batches of deeds, and the book of them."""

import itertools
import random
import unittest

from refusals import refusal
from samples import RING

from streetrounds.desks import Desk
from streetrounds.errors import BadDeed, BadTown, Halted, NoStreet, StreetError, TooMany

TWO = (0, 1, 5, 0)
ONE = (0, 1, 5, 1)

# Deeds that can all be done in turn at a desk of RING.
DEEDS = [("build", (3, 1, 8, 0)), ("close", 1), ("lay", 3, (1, 2, 6, 1)), ("build", (2, 0, 4, 1)), ("close", 0)]

# Deeds that are deeds by their form, but that a desk of RING refuses.
REFUSED = [
    ("build", None), ("build", (0, 0, 5, 0)), ("build", [0, 1, 5, 0]), ("build", ()),
    ("close", 9), ("close", -1), ("close", True), ("close", None), ("close", "0"), ("close", (0,)),
    ("lay", 9, TWO), ("lay", None, TWO), ("lay", 0, None), ("lay", 0, (0, 1, 100, 0)), ("lay", False, TWO),
]

NO_DEEDS = [
    None, True, 0, 1.5, "", "build", b"build", [], {}, (), ("build",), ("close",), ("lay",), ("lay", 0),
    ("build", TWO, TWO), ("close", 0, 0), ("lay", 0, TWO, TWO), ("build", 0, TWO), ["build", TWO], ["close", 0],
    ("Build", TWO), ("", TWO), ("town", 0), ("open", 0), ("batch", []), ("build ", TWO), ("begun", 0), (b"build", TWO),
    (None, TWO), (0, TWO), (True, 0), ((), TWO), ([], TWO), (["build"], TWO), (("build",), TWO), ({}, TWO),
    (("close", 0),), (("lay", 0, TWO), 0, TWO), (TWO, "build"),
]

NO_LISTS = [None, True, False, 0, 1, 2.5, "", "build", b"", (), tuple(DEEDS), {}, {0: DEEDS[0]}, DEEDS[0]]


def do(desk, deed):
    """Do a deed by the desk's own method."""
    return getattr(desk, deed[0])(*deed[1:])


def words(deeds):
    return [deed[0] for deed in deeds]


class Done(unittest.TestCase):
    def test_deeds_are_done_in_turn(self):
        for many in range(len(DEEDS) + 1):
            desk, beside = Desk(RING), Desk(RING)
            told = desk.batch(DEEDS[:many])
            self.assertIs(type(told), list)
            self.assertEqual(told, [do(beside, deed) for deed in DEEDS[:many]])
            self.assertEqual(desk.town(), beside.town())
            self.assertEqual(desk.long(), beside.long())
            self.assertEqual(desk.book(), ["begun", *words(DEEDS[:many]), "ended"])

    def test_what_each_told(self):
        desk = Desk((2, ()))
        deeds = [("build", (0, 1, 7, 0)), ("build", (1, 0, 5, 1)), ("close", 0), ("lay", 0, (0, 1, 3, 0))]
        self.assertEqual(desk.batch(deeds), [14, 12, None, 6])
        self.assertEqual(desk.town(), (2, ((0, 1, 3, 0),)))

    def test_without_keep_the_same_is_done(self):
        for keep in (True, False):
            desk = Desk(RING)
            told = desk.batch(DEEDS, keep=keep)
            self.assertEqual(told, Desk(RING).batch(DEEDS))
            self.assertEqual(desk.book(), ["begun", *words(DEEDS), "ended"])

    def test_the_empty_batch(self):
        for keep in (True, False):
            desk = Desk(RING)
            self.assertEqual(desk.batch([], keep=keep), [])
            self.assertEqual(desk.book(), ["begun", "ended"])
            self.assertEqual(desk.town(), RING)

    def test_several_batches(self):
        desk = Desk(RING)
        desk.batch([("close", 0)])
        desk.batch([])
        desk.build(TWO)
        desk.batch([("build", TWO), ("lay", 0, TWO)], keep=False)
        told = ["begun", "close", "ended", "begun", "ended", "begun", "build", "lay", "ended"]
        self.assertEqual(desk.book(), told)

    def test_deeds_alone_are_not_in_the_book(self):
        desk = Desk(RING)
        self.assertEqual(desk.book(), [])
        for deed in DEEDS:
            do(desk, deed)
        self.assertEqual(desk.book(), [])

    def test_a_batch_by_name(self):
        desk = Desk(RING)
        self.assertEqual(desk.batch(keep=False, deeds=[("build", TWO)]), [112 + 10])

    def test_keep_is_handed_in_by_its_name_alone(self):
        with self.assertRaises(TypeError):
            Desk(RING).batch([], False)


class IsHalted(unittest.TestCase):
    def assert_halted(self, town, deeds, number):
        """See that the deed with the number halts a batch, with keep and without."""
        for keep in ({}, {"keep": True}, {"keep": False}):
            desk, beside = Desk(town), Desk(town)
            done = 0 if keep == {"keep": False} else number
            for deed in deeds[:done]:
                do(beside, deed)
            told = refusal(self, Halted, desk.batch, deeds, **keep)
            self.assertEqual(told, {"number": number, "done": done})
            self.assertEqual(desk.town(), beside.town())
            self.assertEqual(desk.long(), beside.long())
            self.assertEqual(desk.book(), ["begun", *words(deeds[:number]), "ended"])
            self.assertIs(desk.is_idle(), True)
            # The desk goes on as ever.
            self.assertEqual(desk.batch([]), [])
            self.assertEqual(desk.book(), ["begun", *words(deeds[:number]), "ended", "begun", "ended"])

    def test_one_refused_at_each_place(self):
        for number in range(len(DEEDS) + 1):
            for deed in REFUSED:
                with self.subTest(number=number, deed=deed):
                    self.assert_halted(RING, DEEDS[:number] + [deed] + DEEDS[number:], number)

    def test_the_first_of_several_refused(self):
        self.assert_halted(RING, [DEEDS[0], ("close", 9), ("build", None)], 1)
        self.assert_halted(RING, [("build", None), ("close", 9)], 0)

    def test_refused_by_what_was_done_ahead(self):
        self.assert_halted((2, (TWO,)), [("close", 0), ("close", 0)], 1)
        self.assert_halted((2, (TWO,) * 15), [("build", TWO), ("build", TWO)], 1)
        self.assert_halted((2, (TWO,) * 6), [("build", TWO), ("build", ONE)], 1)
        self.assert_halted((2, (TWO,) * 6), [("build", ONE), ("lay", 6, TWO), ("lay", 0, ONE), ("build", TWO)], 3)
        self.assert_halted((2, ()), [("build", TWO), ("lay", 0, ONE), ("lay", 1, ONE)], 2)

    def test_done_ahead_makes_it_possible(self):
        desk = Desk((2, (TWO,) * 16))
        self.assertEqual(desk.batch([("close", 0), ("build", TWO), ("lay", 15, (1, 0, 7, 0))]), [80, 80, 82])

    def test_halted_says_what_refused(self):
        for deed, kind in ((("close", 9), NoStreet), (("build", None), BadTown)):
            with self.assertRaises(Halted) as caught:
                Desk(RING).batch([deed])
            self.assertIs(type(caught.exception.__cause__), kind)
        with self.assertRaises(Halted) as caught:
            Desk((2, (TWO,) * 7)).batch([("build", ONE)])
        self.assertIs(type(caught.exception.__cause__), TooMany)

    def test_batches_by_chance(self):
        chance = random.Random(111)
        halted = 0
        for _ in range(150):
            deeds = [self.some_deed(chance) for _ in range(chance.randint(0, 6))]
            keep = chance.choice((True, False))
            desk, beside = Desk(RING), Desk(RING)
            told, number = self.done_beside(beside, deeds)
            if number is None:
                self.assertEqual(desk.batch(deeds, keep=keep), told)
                self.assertEqual(desk.town(), beside.town())
            else:
                halted += 1
                values = refusal(self, Halted, desk.batch, deeds, keep=keep)
                self.assertEqual(values, {"number": number, "done": number if keep else 0})
                self.assertEqual(desk.town(), beside.town() if keep else RING)
            self.assertEqual(desk.book(), ["begun", *words(deeds[:len(told)]), "ended"])
        self.assertTrue(20 < halted < 130)

    def some_deed(self, chance):
        street = (chance.randint(0, 3), chance.randint(0, 4), chance.randint(1, 9), chance.randint(0, 1))
        number = chance.randint(0, 4)
        return chance.choice((("build", street), ("close", number), ("lay", number, street)))

    def done_beside(self, desk, deeds):
        """Tell what the deeds told in turn, and the number of the first refused."""
        told = []
        for number, deed in enumerate(deeds):
            try:
                told.append(do(desk, deed))
            except StreetError:
                return told, number
        return told, None


class BadDeeds(unittest.TestCase):
    def assert_bad_deed(self, deeds, number):
        for keep in ({}, {"keep": True}, {"keep": False}):
            desk = Desk(RING)
            desk.batch([("lay", 0, TWO)])
            book = desk.book()
            self.assertEqual(refusal(self, BadDeed, desk.batch, deeds, **keep), {"number": number})
            self.assertEqual(desk.town(), RING)
            self.assertEqual(desk.book(), book)
            self.assertIs(desk.is_idle(), True)

    def test_what_is_no_deed_at_each_place(self):
        for number in range(len(DEEDS) + 1):
            for deed in NO_DEEDS:
                with self.subTest(number=number, deed=deed):
                    self.assert_bad_deed(DEEDS[:number] + [deed] + DEEDS[number:], number)

    def test_the_first_of_several(self):
        self.assert_bad_deed([DEEDS[0], None, (), None], 1)
        self.assert_bad_deed([None, DEEDS[0], None], 0)

    def test_ahead_of_all_that_is_done(self):
        self.assert_bad_deed([*DEEDS, None], len(DEEDS))
        self.assert_bad_deed([("close", 9), ("build", None), ("close",)], 2)

    def test_what_is_no_list(self):
        for deeds in NO_LISTS:
            with self.subTest(deeds=deeds):
                self.assert_bad_deed(deeds, 0)


class Book(unittest.TestCase):
    def test_a_book_that_was_told_may_be_changed(self):
        desk = Desk(RING)
        desk.batch(DEEDS)
        told = desk.book()
        kept = list(told)
        told.clear()
        told.append("spoilt")
        self.assertEqual(desk.book(), kept)
        desk.batch([])
        self.assertEqual(desk.book(), [*kept, "begun", "ended"])
        self.assertEqual(told, ["spoilt"])

    def test_kinds_of_values(self):
        desk = Desk(RING)
        self.assertIs(type(desk.book()), list)
        desk.batch(DEEDS)
        self.assertEqual({type(word) for word in desk.book()}, {str})

    def test_what_a_batch_told_may_be_changed(self):
        desk = Desk(RING)
        told = desk.batch(DEEDS)
        kept = desk.town(), desk.long(), desk.book()
        told.clear()
        self.assertEqual((desk.town(), desk.long(), desk.book()), kept)

    def test_a_list_of_deeds_is_not_changed_or_kept(self):
        for deeds in (list(DEEDS), [*DEEDS, ("close", 9)], [*DEEDS, None], []):
            for keep in (True, False):
                kept = list(deeds)
                desk = Desk(RING)
                try:
                    desk.batch(deeds, keep=keep)
                except (Halted, BadDeed):
                    pass
                self.assertEqual(deeds, kept)
                stands = desk.town(), desk.long(), desk.book()
                handed_in = deeds
                handed_in.append(("build", TWO))
                self.assertEqual((desk.town(), desk.long(), desk.book()), stands)
                del handed_in[-1]

    def test_is_idle(self):
        desk = Desk(RING)
        self.assertIs(desk.is_idle(), True)
        for deeds, keep in itertools.product(([], DEEDS, [("close", 9)], [None], None), (True, False)):
            try:
                desk.batch(deeds, keep=keep)
            except (Halted, BadDeed):
                pass
            self.assertIs(desk.is_idle(), True)

    def test_is_not_idle_while_a_batch_is_under_way(self):
        seen = []

        class Watched(Desk):
            def build(self, street):
                seen.append((self.is_idle(), self.book()))
                return Desk.build(self, street)

        desk = Watched(RING)
        desk.batch([("build", TWO), ("build", TWO)])
        self.assertEqual(seen, [(False, ["begun"]), (False, ["begun", "build"])])
        self.assertIs(desk.is_idle(), True)


if __name__ == "__main__":
    unittest.main()
