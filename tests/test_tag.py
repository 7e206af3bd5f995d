"""Promise 7: a date's tags."""

import unittest

from tests.helper import FULL_TEXT, CalendarCase, add, ask, date_text, last, load, row, tag, text_after

FIVE = [add()] + [tag(0, given) for given in "abcde"]


class Tag(CalendarCase):
    def test_it_has_it_and_has_not_any_more(self):
        self.assertEqual(ask(add(), tag(0, "home"), tag(0, "home"), tag(0, "home")), [[0], [1], [0], [1]])
        self.assertEqual(text_after(add(), tag(0, "home")), date_text("tag:home"))
        self.assertEqual(text_after(add(), tag(0, "home"), tag(0, "home")), date_text())
        self.assertEqual(text_after(add(), add(), tag(1, "home")), date_text() + date_text("tag:home"))

    def test_what_was_loaded(self):
        self.assertEqual(last(load(FULL_TEXT), tag(0, "calm")), [0])
        self.assertEqual(last(load(FULL_TEXT), tag(1, "calm")), [1])

    def test_as_the_last(self):
        self.assertEqual(text_after(add(), tag(0, "b"), tag(0, "c"), tag(0, "a")), date_text("tag:b,c,a"))
        self.assertEqual(text_after(add(), tag(0, "b"), tag(0, "c"), tag(0, "b"), tag(0, "b")), date_text("tag:c,b"))

    def test_like_ones_are_not_the_same(self):
        self.assertEqual(ask(add(), tag(0, "a"), tag(0, "aa"), tag(0, "aaa"), tag(0, "ab")), [[0], [1], [1], [1], [1]])
        self.assertEqual(text_after(add(), tag(0, "a"), tag(0, "aa"), tag(0, "ab"), tag(0, "a")), date_text("tag:aa,ab"))

    def test_how_many_letters(self):
        for size in (1, 2, 7, 8):
            self.assertEqual(last(add(), tag(0, "z" * size)), [1])
        for size in (0, 9, 10, 700):
            self.check_refused([load(FULL_TEXT)], tag(0, "z" * size), -1)

    def test_which_bytes(self):
        for byte in range(256):
            with self.subTest(byte=byte):
                if byte in row("abcdefghijklmnopqrstuvwxyz"):
                    self.assertEqual(last(add(), tag(0, [byte])), [1])
                    self.assertEqual(last(add(), tag(0, [97, byte])), [1])
                else:
                    self.check_refused([load(FULL_TEXT)], tag(0, [byte]), -1)
                    self.check_refused([add()], tag(0, [97, byte]), -1)
                    self.check_refused([add()], tag(0, [byte, 97]), -1)

    def test_five_and_a_sixth(self):
        self.assertEqual(ask(*FIVE), [[0], [1], [1], [1], [1], [1]])
        self.assertEqual(text_after(*FIVE), date_text("tag:a,b,c,d,e"))
        self.check_refused(FIVE, tag(0, "f"), -5)
        self.check_refused([load(date_text("tag:a,b,c,d,e"))], tag(0, "aa"), -5)

    def test_one_of_five_can_be_taken_away(self):
        for given in "abcde":
            self.assertEqual(last(*FIVE, tag(0, given)), [0])
            self.assertEqual(text_after(*FIVE, tag(0, given)),
                             date_text("tag:" + ",".join("abcde".replace(given, ""))))
            self.assertEqual(last(*FIVE, tag(0, given), tag(0, "f")), [1])

    def test_each_date_has_its_own_five(self):
        self.assertEqual(last(*FIVE, add(), tag(1, "a")), [1])

    def test_no_such_date(self):
        self.check_refused([], tag(0, "a"), -3)
        for which in (2, 3, 6, 20):
            self.check_refused([load(FULL_TEXT)], tag(which, "a"), -3)

    def test_which_refusal_is_told(self):
        self.check_refused(FIVE, tag(0, "F"), -1)
        self.check_refused(FIVE, tag(0, ""), -1)
        self.check_refused(FIVE, tag(1, "F"), -3)
        self.check_refused(FIVE, tag(1, "f"), -3)


if __name__ == "__main__":
    unittest.main()
