"""Promise 13: a line cut."""

import unittest

from tests.helper import FULL_TEXT, CalendarCase, add, answered_bytes, ask, cut, join, last, load, other, row, text_after

# How many bytes a line has, and its pieces.
PIECES = {
    0: [], 1: [1], 2: [2], 23: [23], 24: [24], 25: [24, 1], 26: [24, 2], 46: [24, 22], 47: [24, 23], 48: [24, 23, 1],
    49: [24, 23, 2], 69: [24, 23, 22], 70: [24, 23, 23], 71: [24, 23, 23, 1], 93: [24, 23, 23, 23],
    94: [24, 23, 23, 23, 1], 699: [24] + [23] * 29 + [8], 700: [24] + [23] * 29 + [9],
}


def pieces_of(line, sizes):
    pieces = []
    for size in sizes:
        pieces.append(line[:size])
        line = line[size:]
    return "\n ".join(pieces)


class Cut(CalendarCase):
    def test_how_many_bytes(self):
        signs = "abcdefghijklmnopqrstuvwxyz0123456789ABC: ,"
        for size, sizes in PIECES.items():
            line = (signs * 20)[:size]
            self.assertEqual(sum(sizes), size)
            with self.subTest(size=size):
                self.assertEqual(answered_bytes(cut(line)), pieces_of(line, sizes))
                self.assertEqual(last(cut(line))[0], size + 2 * max(0, len(sizes) - 1))

    def test_plain_numbers(self):
        self.assertEqual(last(cut("")), [0])
        self.assertEqual(last(cut("a")), [1, 97])
        self.assertEqual(last(cut([7] * 24)), [24] + [7] * 24)
        self.assertEqual(last(cut([7] * 25)), [27] + [7] * 24 + [10, 32, 7])
        self.assertEqual(last(cut([7] * 48)), [52] + [7] * 24 + [10, 32] + [7] * 23 + [10, 32, 7])

    def test_any_byte_but_a_newline(self):
        for byte in range(256):
            with self.subTest(byte=byte):
                if byte == 10:
                    self.check_refused([load(FULL_TEXT)], cut([byte]), -1)
                else:
                    self.assertEqual(last(cut([byte])), [1, byte])
                    self.assertEqual(last(cut([byte] * 25)), [27] + [byte] * 24 + [10, 32, byte])

    def test_it_need_be_no_line_with_a_name(self):
        for line in ("no line", ":", " a", "x" * 20):
            self.assertEqual(answered_bytes(cut(line)), line)

    def test_blanks_where_it_is_cut(self):
        self.assertEqual(answered_bytes(cut("a" * 24 + " b")), "a" * 24 + "\n  b")
        self.assertEqual(answered_bytes(cut("a" * 23 + "  b")), "a" * 23 + " \n  b")
        self.assertEqual(answered_bytes(cut(" " * 48)), " " * 24 + "\n " + " " * 23 + "\n  ")

    def test_a_newline_wherever_it_stands(self):
        for given in ("\n", "a\n", "\na", "a\nb", "\n ", "a\n b", "a" * 24 + "\n", "a" * 24 + "\n b", "a" * 699 + "\n",
                      "\n" + "a" * 699, "\n" * 700, "title:a\n"):
            with self.subTest(given=given):
                self.check_refused([load(FULL_TEXT)], cut(given), -1)
                self.check_refused([], cut(given), -1)

    def test_put_together_it_is_as_it_was(self):
        for size in list(range(100)) + [500, 600]:
            for signs in ("abcdefg ", " ", "a  ", "\r\t\x00\xff"):
                line = (signs * 700)[:size]
                self.assertEqual(answered_bytes(join(answered_bytes(cut(line)))), line)

    def test_as_lines_are_told(self):
        for size in range(61):
            value = ("abcdefghi " * 6)[:size]
            self.assertIn("\n" + answered_bytes(cut("x-a:" + value)) + "\nend:date\n", text_after(add(), other(0, "x-a", value)))

    def test_the_calendar_stays(self):
        for given in ("", "title:b", "a" * 50):
            self.check_nothing_changes([load(FULL_TEXT)], cut(given))

    def test_asked_twice(self):
        given = row("a" * 60)
        self.assertEqual(ask(cut(given))[0], ask(cut(given), cut(given))[1])


if __name__ == "__main__":
    unittest.main()
