"""Promise 6: how long ahead a date rings."""

import itertools
import unittest

from tests.helper import FULL_TEXT, CalendarCase, add, ask, date_text, last, load, ring, text_after

THREE = [add(), ring(0, 5), ring(0, 10), ring(0, 60)]


class Ring(CalendarCase):
    def test_it_rings_and_does_not_any_more(self):
        self.assertEqual(ask(add(), ring(0, 5), ring(0, 5), ring(0, 5)), [[0], [1], [0], [1]])
        self.assertEqual(text_after(add(), ring(0, 5)), date_text("ring:5"))
        self.assertEqual(text_after(add(), ring(0, 5), ring(0, 5)), date_text())
        self.assertEqual(text_after(add(), add(), ring(1, 5)), date_text() + date_text("ring:5"))

    def test_what_was_loaded(self):
        self.assertEqual(last(load(FULL_TEXT), ring(0, 60)), [0])
        self.assertEqual(last(load(FULL_TEXT), ring(1, 60)), [1])

    def test_how_long(self):
        for number in (0, 1, 9998, 9999):
            self.assertEqual(ask(add(), ring(0, number), ring(0, number)), [[0], [1], [0]])
            self.assertEqual(text_after(add(), ring(0, number)), date_text(f"ring:{number}"))
        for number in (10000, 10001, 20000):
            self.check_refused([load(FULL_TEXT)], ring(0, number), -1)

    def test_rings_rise(self):
        for numbers in itertools.permutations((0, 9, 10)):
            self.assertEqual(text_after(add(), *[ring(0, number) for number in numbers]),
                             date_text("ring:0", "ring:9", "ring:10"))
        for numbers in itertools.permutations((100, 99, 1000)):
            self.assertEqual(text_after(add(), *[ring(0, number) for number in numbers], ring(0, 99), ring(0, 5)),
                             date_text("ring:5", "ring:100", "ring:1000"))

    def test_three_and_a_fourth(self):
        self.assertEqual(ask(*THREE), [[0], [1], [1], [1]])
        for number in (0, 6, 9999):
            self.check_refused(THREE, ring(0, number), -5)
        self.check_refused([load(date_text("ring:1", "ring:2", "ring:3"))], ring(0, 4), -5)

    def test_one_of_three_can_be_taken_away(self):
        for number, left in ((5, (10, 60)), (10, (5, 60)), (60, (5, 10))):
            self.assertEqual(last(*THREE, ring(0, number)), [0])
            self.assertEqual(text_after(*THREE, ring(0, number)), date_text(*[f"ring:{other}" for other in left]))
            self.assertEqual(last(*THREE, ring(0, number), ring(0, 7)), [1])

    def test_each_date_has_its_own_three(self):
        self.assertEqual(last(*THREE, add(), ring(1, 5)), [1])

    def test_no_such_date(self):
        self.check_refused([], ring(0, 5), -3)
        for which in (2, 3, 6, 20):
            self.check_refused([load(FULL_TEXT)], ring(which, 5), -3)

    def test_which_refusal_is_told(self):
        self.check_refused(THREE, ring(0, 10000), -1)
        self.check_refused(THREE, ring(1, 10000), -3)
        self.check_refused(THREE, ring(1, 6), -3)


if __name__ == "__main__":
    unittest.main()
