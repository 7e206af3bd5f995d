"""Promise 5: a date's length."""

import unittest

from tests.helper import FULL_TEXT, CalendarCase, add, ask, date_text, last, load, long, text_after


class Long(CalendarCase):
    def test_it_answers_the_length_that_it_had(self):
        self.assertEqual(ask(add(), long(0, 45), long(0, 9999), long(0, 0), long(0, 1), long(0, 1)),
                         [[0], [0], [45], [9999], [0], [1]])
        self.assertEqual(last(load(FULL_TEXT), long(0, 1)), [45])

    def test_that_is_its_length(self):
        for length in (1, 9, 10, 45, 999, 1000, 9999):
            self.assertEqual(text_after(add(), long(0, 7), long(0, length)), date_text(f"long:{length}"))
        self.assertEqual(text_after(add(), add(), long(1, 45)), date_text() + date_text("long:45"))

    def test_nought_is_not_told(self):
        self.assertEqual(text_after(add(), long(0, 45), long(0, 0)), date_text())

    def test_above_9999(self):
        for length in (10000, 10001, 20000):
            self.check_refused([load(FULL_TEXT)], long(0, length), -1)
            self.check_refused([load(FULL_TEXT)], long(1, length), -1)

    def test_no_such_date(self):
        self.check_refused([], long(0, 5), -3)
        for which in (2, 3, 6, 20):
            self.check_refused([load(FULL_TEXT)], long(which, 5), -3)

    def test_minus_3_ahead_of_minus_1(self):
        self.check_refused([load(FULL_TEXT)], long(2, 10000), -3)


if __name__ == "__main__":
    unittest.main()
