"""Point 11: towns written and read."""

import re
import unittest

from refusals import refusal
from samples import RING, bound_towns, no_towns, ring_towns, some_towns

from streetrounds.errors import BadText, BadTown
from streetrounds.notes import read, written

TEXT = "town 4\n0 = 1 5\n1 > 2 7\n2 = 3 1\n3 > 0 99"
ROWS = TEXT.split("\n")

# All signs that texts may have.
SIGNS = [chr(code) for code in range(32, 127) if chr(code) != "%"] + ["\n"]

NUMBER = "(0|[1-9][0-9]?)"


def with_row(place, row):
    """Tell TEXT with another row at the place."""
    return "\n".join([*ROWS[:place], row, *ROWS[place + 1:]])


def slow_bad_row(text):
    """Tell the first row that isn't so, None if all are."""
    for number, row in enumerate(text.split("\n")):
        form = f"{NUMBER} [=>] {NUMBER} {NUMBER}" if number else f"town {NUMBER}"
        if re.fullmatch(form, row) is None:
            return number
    return None


class Written(unittest.TestCase):
    def test_towns(self):
        self.assertEqual(written(RING), TEXT)
        self.assertEqual(written((1, ())), "town 1")
        self.assertEqual(written((9, ())), "town 9")
        self.assertEqual(written((2, ((1, 0, 10, 1),))), "town 2\n1 > 0 10")
        self.assertEqual(written((9, ((8, 0, 9, 0),) * 16)), "town 9" + "\n8 = 0 9" * 16)

    def test_kind_of_value(self):
        self.assertIs(type(written(RING)), str)

    def test_a_bad_town(self):
        for town, number in no_towns():
            with self.subTest(town=town):
                self.assertEqual(refusal(self, BadTown, written, town), {"number": number})


class Read(unittest.TestCase):
    def assert_bad_text(self, text, row):
        with self.subTest(text=text):
            self.assertEqual(refusal(self, BadText, read, text), {"row": row})

    def assert_bad_town(self, text, number):
        with self.subTest(text=text):
            self.assertEqual(refusal(self, BadTown, read, text), {"number": number})

    def test_texts(self):
        self.assertEqual(read(TEXT), RING)
        self.assertEqual(read("town 1"), (1, ()))
        self.assertEqual(read("town 2\n1 > 0 10\n0 = 1 99"), (2, ((1, 0, 10, 1), (0, 1, 99, 0))))

    def test_what_is_written_is_read_to_the_same(self):
        towns = bound_towns() + some_towns(121, 100, range(1, 10), range(0, 17), 99)
        for town in towns + ring_towns(122, 50, range(2, 10), range(2, 17), 99):
            with self.subTest(town=town):
                self.assertEqual(read(written(town)), town)
                self.assertEqual(written(read(written(town))), written(town))

    def test_all_lengths_of_streets(self):
        for long in range(1, 100):
            town = (2, ((0, 1, long, long % 2),))
            self.assertEqual(read(written(town)), town)

    def test_kinds_of_values(self):
        corners, streets = read(TEXT)
        self.assertIs(type(read(TEXT)), tuple)
        self.assertIs(type(corners), int)
        self.assertIs(type(streets), tuple)
        self.assertEqual({type(street) for street in streets}, {tuple})
        self.assertEqual({type(number) for street in streets for number in street}, {int})

    def test_what_is_no_text(self):
        for thing in (None, True, False, 0, 4, 2.5, [], ROWS, (), tuple(ROWS), {}, b"town 4", RING):
            self.assert_bad_text(thing, 0)

    def test_first_rows_that_are_not_so(self):
        rows = [
            "", " ", "town", "town ", "town  4", " town 4", "town 4 ", "town4", "Town 4", "TOWN 4", "towns 4",
            "town = 4", "town 4 4", "4 town", "4", "town four", "town -4", "town +4", "town 4.", "town 4.0",
            "town 04", "town 00", "town 004", "town 100", "town 999", "town 4e0", "town 0x4", "town 4_", "town _4",
            "town ~", "town !", "0 = 1 5", "town 1 0", "town\t4", "town 4\r",
        ]
        for row in rows:
            self.assert_bad_text(row, 0)
            self.assert_bad_text(with_row(0, row), 0)

    def test_other_rows_that_are_not_so(self):
        rows = [
            "", " ", "town 4", "0", "0 =", "0 = 1", "0 = 1 ", "0 = 1 5 ", " 0 = 1 5",
            "0  = 1 5", "0 =  1 5", "0 = 1  5", "0= 1 5", "0 =1 5", "0=1 5", "0 = 15", "0 = 1 5 0", "0 = 1 5 5",
            "0 1 5", "0 1 = 5", "= 0 1 5", "0 = 1 5 =", "0 - 1 5", "0 < 1 5", "0 == 1 5", "0 => 1 5", "0 >> 1 5",
            "0 ~ 1 5", "0 * 1 5", "0 0 1 5", "0 1 1 5", "0 > > 1", "00 = 1 5", "0 = 01 5", "0 = 1 05", "0 = 1 00",
            "0 = 1 100", "100 = 1 5", "0 = 100 5", "0 = 1 005", "-1 = 1 5", "0 = -1 5", "0 = 1 -5",
            "+0 = 1 5", "0 = +1 5", "0 = 1 +5", "0 = 1 5.0", "0 = 1 5,", "0 = 1 five", "a = 1 5", "0 = b 5", "0 = 1 c",
            "0 = 1 _5", "0 = 1 5_", "0 = 1 1_5", "0 = 1 !", "0\t= 1 5", "0 = 1 5\r", "0x0 = 1 5",
        ]
        for row in rows:
            for place in range(1, 5):
                self.assert_bad_text(with_row(place, row), place)
            self.assert_bad_text(TEXT + "\n" + row, 5)

    def test_an_end_of_a_line_too_many(self):
        self.assert_bad_text("\n", 0)
        self.assert_bad_text("\n" + TEXT, 0)
        self.assert_bad_text("town 4\n", 1)
        self.assert_bad_text(TEXT + "\n", 5)
        self.assert_bad_text(TEXT + "\n\n", 5)
        self.assert_bad_text(TEXT.replace("\n", "\n\n"), 1)
        self.assert_bad_text(TEXT.replace("\n", "\r\n"), 0)

    def test_rows_left_out_and_moved(self):
        self.assert_bad_text("\n".join(ROWS[1:]), 0)
        self.assert_bad_text("\n".join([*ROWS[1:], ROWS[0]]), 0)
        self.assert_bad_text("\n".join([ROWS[0], ROWS[0], *ROWS[1:]]), 1)
        self.assertEqual(read("\n".join([*ROWS[:2], *ROWS[3:]])), (4, (RING[1][0], *RING[1][2:])))
        self.assertEqual(read("\n".join([ROWS[0], *ROWS[:0:-1]])), (4, RING[1][::-1]))

    def test_the_first_row_of_several(self):
        self.assert_bad_text("town 4\n0 = 1 5\n0 = 1\n\n", 2)
        self.assert_bad_text("town\n0 = 1", 0)

    def test_what_is_not_so_anywhere_is_refused_ahead_of_what_tells_no_town(self):
        self.assert_bad_text("town 0\n0 = 1 5\n0 = 1", 2)
        self.assert_bad_text("town 4\n0 = 0 5\n0 = 1 05", 2)
        self.assert_bad_text("town 2" + "\n0 = 1 5" * 17 + "\n", 18)
        self.assert_bad_text("town 2" + "\n0 = 1 5" * 40 + "\nx", 41)

    def test_texts_that_tell_no_town(self):
        for corners in (0, 10, 11, 99):
            self.assert_bad_town(f"town {corners}", -1)
            self.assert_bad_town(f"town {corners}\n0 = 1 5", -1)
        for row in ("0 = 0 5", "0 = 4 5", "4 > 0 5", "0 = 99 5", "10 = 1 5", "0 = 1 0", "0 > 1 0"):
            for place in range(1, 5):
                self.assert_bad_town(with_row(place, row), place - 1)
        self.assert_bad_town("town 1\n0 = 1 5", 0)
        self.assert_bad_town("town 4\n0 = 1 5\n0 = 0 5\n4 = 0 5", 1)

    def test_a_seventeenth_street(self):
        self.assertEqual(read("town 2" + "\n0 = 1 5" * 16), (2, ((0, 1, 5, 0),) * 16))
        self.assert_bad_town("town 2" + "\n0 = 1 5" * 17, 16)
        self.assert_bad_town("town 2" + "\n0 = 1 5" * 16 + "\n0 = 0 5", 16)
        self.assert_bad_town("town 2" + "\n0 = 1 5" * 100, 16)

    def test_too_many_two_way_streets_are_a_town(self):
        town = (3, ((0, 1, 5, 0),) * 7 + ((0, 1, 5, 1),))
        self.assertEqual(read(written(town)), town)

    def assert_as_slow(self, text):
        """See that what is told or refused is so by the rows' own form."""
        row = slow_bad_row(text)
        with self.subTest(text=text):
            if row is not None:
                self.assertEqual(refusal(self, BadText, read, text), {"row": row})
                return
            try:
                told = read(text)
            except BadTown as error:
                self.assertIn(error.number, range(-1, 4))
            else:
                self.assertEqual(written(told), text)

    def test_one_sign_changed(self):
        for place in range(len(TEXT)):
            for sign in SIGNS:
                self.assert_as_slow(TEXT[:place] + sign + TEXT[place + 1:])

    def test_one_sign_put_in_or_left_out(self):
        for place in range(len(TEXT) + 1):
            self.assert_as_slow(TEXT[:place] + TEXT[place + 1:])
            for sign in SIGNS:
                self.assert_as_slow(TEXT[:place] + sign + TEXT[place:])


if __name__ == "__main__":
    unittest.main()
