"""Promise 14: bytes put together."""

import itertools
import unittest

from tests.helper import FULL_TEXT, CalendarCase, answered_bytes, join, last, load


def taken_from_the_left(given):
    """Another way to the same: split at each newline, and look at what each piece begins with."""
    first, *rest = given.split("\n")
    return first + "".join(piece[1:] if piece.startswith(" ") else "\n" + piece for piece in rest)


class Join(CalendarCase):
    def check_joined(self, given, expected):
        with self.subTest(given=given):
            self.assertEqual(answered_bytes(join(given)), expected)

    def test_nothing_to_put_together(self):
        for given in ("", "a", "title:a\n", "a b", " a", "a\n", "a\nb c\n", "a \nb", "\r a", "a\n\tb"):
            self.check_joined(given, given)

    def test_plain_numbers(self):
        self.assertEqual(last(join([])), [0])
        self.assertEqual(last(join([10])), [1, 10])
        self.assertEqual(last(join([32])), [1, 32])
        self.assertEqual(last(join([10, 32])), [0])
        self.assertEqual(last(join([32, 10])), [2, 32, 10])
        self.assertEqual(last(join([1, 10, 32, 2])), [2, 1, 2])

    def test_at_the_beginning_in_the_middle_at_the_end(self):
        self.check_joined("\n ab", "ab")
        self.check_joined("a\n b", "ab")
        self.check_joined("ab\n ", "ab")
        self.check_joined("\n a\n b\n ", "ab")

    def test_one_behind_another(self):
        self.check_joined("a\n \n b", "ab")
        self.check_joined("\n \n \n ", "")
        self.check_joined("\n " * 350, "")
        self.check_joined("a\n b\n c\n d\n", "abcd\n")

    def test_one_blank_goes_with_each_newline(self):
        self.check_joined("a\n  b", "a b")
        self.check_joined("a\n   b", "a  b")
        self.check_joined("a\n\n b", "a\nb")
        self.check_joined("a\n\n\n b", "a\n\nb")

    def test_what_comes_to_stand_beside_one_another_is_not_looked_at_again(self):
        self.assertEqual(last(join([10, 10, 32, 32])), [2, 10, 32])
        self.assertEqual(last(join([10, 10, 10, 32, 32, 32])), [4, 10, 10, 32, 32])
        self.assertEqual(last(join([10, 10, 32, 10, 32, 32])), [2, 10, 32])
        self.assertEqual(last(join([65, 10, 10, 32, 32, 66])), [4, 65, 10, 32, 66])
        self.assertEqual(last(join([10, 10, 32, 32, 10, 32])), [2, 10, 32])
        self.assertEqual(last(join([10, 10, 32, 32] * 2)), [4, 10, 32, 10, 32])

    def test_newlines_or_blanks_alone(self):
        for size in (1, 2, 3, 24, 25, 699, 700):
            self.check_joined("\n" * size, "\n" * size)
            self.check_joined(" " * size, " " * size)
        self.check_joined("\n" * 350 + " " * 350, "\n" * 349 + " " * 349)
        self.check_joined(" " * 350 + "\n" * 350, " " * 350 + "\n" * 350)

    def test_any_other_byte_stays(self):
        for byte in range(256):
            sign = bytes([byte]).decode("latin-1")
            self.check_joined(sign, sign)
            if byte != 10:
                self.check_joined(sign + " a", sign + " a")
            if byte != 32:
                self.check_joined("a\n" + sign, "a\n" + sign)
            self.check_joined("a\n \n " + sign, "a" + sign)

    def test_all_short_rows(self):
        for size in range(9):
            for signs in itertools.product("\n a" if size < 7 else "\n ", repeat=size):
                given = "".join(signs)
                self.assertEqual(answered_bytes(join(given)), taken_from_the_left(given), given)

    def test_it_need_be_no_calendars_text(self):
        self.check_joined("no calendar\n at\n  all", "no calendarat all")

    def test_the_calendar_stays(self):
        for given in ("", "title:b\n", "\n ", "a" * 700):
            self.check_nothing_changes([load(FULL_TEXT)], join(given))


if __name__ == "__main__":
    unittest.main()
