"""Promise 11: which dates have a tag."""

import unittest

from tests.helper import FULL_TEXT, CalendarCase, add, ask, date_text, drop, find, last, load, name, other, tag

SEVERAL = date_text("tag:a,b") + date_text("tag:b") + date_text() + date_text("tag:c,d,e,a,b") + date_text("tag:aa")


class Find(CalendarCase):
    def test_no_date(self):
        self.assertEqual(last(find("a")), [0])
        self.assertEqual(last(add(), find("a")), [0])
        self.assertEqual(last(load(SEVERAL), find("f")), [0])

    def test_one(self):
        self.assertEqual(last(load(SEVERAL), find("c")), [1, 3])
        self.assertEqual(last(load(SEVERAL), find("aa")), [1, 4])
        self.assertEqual(last(load(FULL_TEXT), find("calm")), [1, 0])

    def test_several_their_numbers_rising(self):
        self.assertEqual(last(load(SEVERAL), find("a")), [2, 0, 3])
        self.assertEqual(last(load(SEVERAL), find("b")), [3, 0, 1, 3])
        calls = [add()] * 6 + [tag(which, "home") for which in (5, 2, 4, 0, 3, 1)]
        self.assertEqual(last(*calls, find("home")), [6, 0, 1, 2, 3, 4, 5])

    def test_the_whole_tag_alone_counts(self):
        calls = [add(), tag(0, "abcdefgh")]
        self.assertEqual(last(*calls, find("abcdefgh")), [1, 0])
        for given in ("abcdefg", "bcdefgh", "a", "abcdefghi", "ABCDEFGH", "abcdefgi"):
            self.assertEqual(last(*calls, find(given)), [0])

    def test_bytes_that_are_no_tag(self):
        for given in ("", ",", "a,b", "A", "a ", "tag", "tag:a", "a\n", [0], [255], "a" * 9, "a" * 700, "x-a"):
            with self.subTest(given=given):
                self.assertEqual(last(load(SEVERAL), find(given)), [0])
                self.assertEqual(last(find(given)), [0])

    def test_names_and_others_are_no_tags(self):
        self.assertEqual(last(add(), name(0, "a"), other(0, "x-a", "a"), find("a")), [0])

    def test_after_drop(self):
        self.assertEqual(last(load(SEVERAL), drop(0), find("b")), [2, 0, 2])
        self.assertEqual(last(load(SEVERAL), drop(1), find("b")), [2, 0, 2])
        self.assertEqual(last(load(SEVERAL), drop(3), find("c")), [0])

    def test_after_a_tag_is_taken_away(self):
        self.assertEqual(last(load(SEVERAL), tag(0, "b"), find("b")), [2, 1, 3])
        self.assertEqual(ask(add(), tag(0, "a"), find("a"), tag(0, "a"), find("a"), tag(0, "a"), find("a"))[2::2],
                         [[1, 0], [0], [1, 0]])

    def test_after_a_refusal(self):
        self.assertEqual(ask(load(SEVERAL), tag(3, "f"), find("f"), tag(0, "F"), find("F"))[1:], [[-5], [0], [-1], [0]])

    def test_asking_changes_nothing(self):
        self.check_nothing_changes([load(SEVERAL)], find("a"))
        self.check_nothing_changes([load(SEVERAL)], find("f"))


if __name__ == "__main__":
    unittest.main()
