"""Promise 4: a date's name."""

import unittest

from tests.helper import (EDGE_BYTES_THAT_MAY_NOT, EDGE_BYTES_THAT_MAY_STAND, FULL_TEXT, CalendarCase, add, ask, date_text,
                          joined, last, load, name, text_after)


def named(text):
    return f"begin:date\nname:{text}\nat:2026-11-16 09:30\nend:date\n"


class Name(CalendarCase):
    def test_it_answers_how_many_bytes_it_had(self):
        self.assertEqual(ask(add(), name(0, "Tea"), name(0, ",;\n\\"), name(0, ""), name(0, "a"), name(0, "b")),
                         [[0], [0], [3], [4], [0], [1]])
        self.assertEqual(last(load(FULL_TEXT), name(0, "a")), [3])

    def test_that_is_its_name(self):
        self.assertEqual(text_after(add(), name(0, "Tea")), named("Tea"))
        self.assertEqual(text_after(add(), name(0, "Tea"), name(0, "Bed")), named("Bed"))
        self.assertEqual(text_after(add(), add(), name(1, "Tea")), date_text() + named("Tea"))

    def test_without_bytes_it_has_none(self):
        self.assertEqual(text_after(add(), name(0, "Tea"), name(0, "")), date_text())

    def test_how_many_bytes(self):
        for size in (0, 1, 39, 40):
            self.assertEqual(ask(add(), name(0, "a" * size), name(0, "")), [[0], [0], [size]])
        self.assertEqual(joined(text_after(add(), name(0, "," * 40))), named("\\," * 40))
        for size in (41, 42, 700):
            self.check_refused([load(FULL_TEXT)], name(0, "a" * size), -1)
            self.check_refused([add()], name(0, "a" * size), -1)

    def test_which_bytes(self):
        for byte in EDGE_BYTES_THAT_MAY_STAND:
            with self.subTest(byte=byte):
                self.assertEqual(ask(add(), name(0, [97, byte]), name(0, [byte]), name(0, "")), [[0], [0], [2], [1]])
        for byte in EDGE_BYTES_THAT_MAY_NOT:
            for given in ([byte], [97, byte], [byte, 97], [97] * 39 + [byte]):
                with self.subTest(given=given):
                    self.check_refused([load(FULL_TEXT)], name(0, given), -1)

    def test_no_such_date(self):
        self.check_refused([], name(0, "a"), -3)
        for which in (2, 3, 6, 20):
            self.check_refused([load(FULL_TEXT)], name(which, "a"), -3)

    def test_minus_3_ahead_of_minus_1(self):
        self.check_refused([load(FULL_TEXT)], name(2, "a" * 41), -3)
        self.check_refused([], name(0, [9]), -3)


if __name__ == "__main__":
    unittest.main()
