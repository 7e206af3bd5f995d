"""Promise 8: lines that nobody knows."""

import unittest

from tests.helper import FULL_TEXT, CalendarCase, add, ask, date_text, joined, last, load, other, row, text_after

THREE = [add(), other(0, "x-a", "1"), other(0, "x-b", "2"), other(0, "x-c", "3")]


class Other(CalendarCase):
    def test_it_answers_how_many_it_has_then(self):
        self.assertEqual(ask(*THREE), [[0], [1], [2], [3]])
        self.assertEqual(last(load(FULL_TEXT), other(0, "x-a", "1")), [3])
        self.assertEqual(last(load(FULL_TEXT), other(1, "x-a", "1")), [1])

    def test_as_the_last(self):
        self.assertEqual(text_after(*THREE), date_text("x-a:1", "x-b:2", "x-c:3"))
        self.assertEqual(text_after(add(), other(0, "x-c", "3"), other(0, "x-a", "1")), date_text("x-c:3", "x-a:1"))
        self.assertEqual(text_after(add(), add(), other(1, "x-a", "1")), date_text() + date_text("x-a:1"))

    def test_the_same_again(self):
        self.assertEqual(ask(add(), other(0, "x-a", "1"), other(0, "x-a", "1")), [[0], [1], [2]])
        self.assertEqual(text_after(add(), other(0, "x-a", "1"), other(0, "x-a", "1")), date_text("x-a:1", "x-a:1"))

    def test_how_many_bytes_a_name_has(self):
        for size in (3, 4, 15, 16):
            known_as = ("x-" + "n" * 14)[:size]
            self.assertEqual(text_after(add(), other(0, known_as, "1")), date_text(known_as + ":1"))
        for known_as in ("", "x", "-", "x-", "x-" + "n" * 15, "x-" + "n" * 16, "x-" + "n" * 698):
            self.check_refused([load(FULL_TEXT)], other(0, known_as, "1"), -1)

    def test_how_a_name_begins(self):
        for known_as in ("x-a", "x--", "x-x"):
            self.assertEqual(last(add(), other(0, known_as, "1")), [1])
        for known_as in ("abc", "xab", "-xa", "y-a", "X-a", "--a", "xx-a", "name", "long", "x_a", "ax-a"):
            self.check_refused([load(FULL_TEXT)], other(0, known_as, "1"), -1)

    def test_which_bytes_a_name_has(self):
        for byte in range(256):
            with self.subTest(byte=byte):
                if byte in row("abcdefghijklmnopqrstuvwxyz-"):
                    self.assertEqual(last(add(), other(0, row("x-") + [byte], "1")), [1])
                    self.assertEqual(last(add(), other(0, row("x-a") + [byte], "1")), [1])
                else:
                    self.check_refused([load(FULL_TEXT)], other(0, row("x-") + [byte], "1"), -1)
                    self.check_refused([load(FULL_TEXT)], other(0, row("x-a") + [byte], "1"), -1)
                    self.check_refused([load(FULL_TEXT)], other(0, row("x-") + [byte] + row("a"), "1"), -1)

    def test_how_many_bytes_a_value_has(self):
        for size in (0, 1, 59, 60):
            self.assertEqual(joined(text_after(add(), other(0, "x-a", "v" * size))), date_text("x-a:" + "v" * size))
        for size in (61, 62, 700):
            self.check_refused([load(FULL_TEXT)], other(0, "x-a", "v" * size), -1)

    def test_which_bytes_a_value_has(self):
        for byte in range(256):
            for value in ([byte], [97, byte], [byte, 97], [97] * 59 + [byte]):
                with self.subTest(value=value):
                    if byte == 10:
                        self.check_refused([load(FULL_TEXT)], other(0, "x-a", value), -1)
                    else:
                        text = bytes(value).decode("latin-1")
                        self.assertEqual(joined(text_after(add(), other(0, "x-a", value))), date_text("x-a:" + text))

    def test_three_and_a_fourth(self):
        self.check_refused(THREE, other(0, "x-d", "4"), -5)
        self.check_refused(THREE, other(0, "x-a", "1"), -5)
        self.check_refused([load(date_text("x-a:1", "x-b:2", "x-c:3"))], other(0, "x-d", "4"), -5)

    def test_each_date_has_its_own_three(self):
        self.assertEqual(last(*THREE, add(), other(1, "x-a", "1")), [1])

    def test_no_such_date(self):
        self.check_refused([], other(0, "x-a", "1"), -3)
        for which in (2, 3, 6, 20):
            self.check_refused([load(FULL_TEXT)], other(which, "x-a", "1"), -3)

    def test_which_refusal_is_told(self):
        for known_as, value in (("a", "1"), ("x-", "1"), ("x-a", "\n"), ("x-a", "v" * 61)):
            self.check_refused(THREE, other(0, known_as, value), -1)
            self.check_refused(THREE, other(1, known_as, value), -3)
        self.check_refused(THREE, other(1, "x-d", "4"), -3)


if __name__ == "__main__":
    unittest.main()
