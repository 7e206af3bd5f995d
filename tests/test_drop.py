"""Promise 9: a date is gone."""

import unittest

from tests.helper import (FULL_TEXT, CalendarCase, add, ask, date, date_text, drop, find, last, load, long, name, tag,
                          text_after, title)

SIX = [add(2000 + year, 1, 1, 0) for year in range(6)]
DAYS = [0, 366, 731, 1096, 1461, 1827]


def without(years, place):
    return years[:place] + years[place + 1:]


def years_text(*years):
    return "".join(date_text(at=f"{2000 + year}-01-01 00:00") for year in years)


class Drop(CalendarCase):
    def test_it_answers_how_many_are_left(self):
        self.assertEqual(ask(*SIX, *[drop(0)] * 6)[6:], [[5], [4], [3], [2], [1], [0]])
        self.assertEqual(ask(load(FULL_TEXT), drop(1), drop(0))[1:], [[1], [0]])

    def test_each_of_six(self):
        for which in range(6):
            with self.subTest(which=which):
                self.assertEqual(last(*SIX, drop(which)), [5])
                self.assertEqual(text_after(*SIX, drop(which)), years_text(*without(list(range(6)), which)))

    def test_the_numbers_of_those_behind_it_move_up(self):
        for which in range(6):
            with self.subTest(which=which):
                parts = ask(*SIX, drop(which), *[date(number) for number in range(5)])
                self.assertEqual([part[0] for part in parts[7:]], without(DAYS, which))
                self.assertEqual(text_after(*SIX, drop(which), drop(which % 5)),
                                 years_text(*without(without(list(range(6)), which), which % 5)))

    def test_calls_then_reach_the_one_that_moved_up(self):
        before = [add(2001, 1, 1, 0), add(2002, 1, 1, 0), add(2003, 1, 1, 0), drop(1)]
        self.assertEqual(text_after(*before, long(1, 7)),
                         date_text(at="2001-01-01 00:00") + date_text("long:7", at="2003-01-01 00:00"))
        self.check_refused(before, long(2, 7), -3)

    def test_all_that_it_had_is_gone(self):
        self.assertEqual(text_after(load(FULL_TEXT), drop(0)), "title:At home\n" + date_text(at="2030-01-01 00:00"))
        self.assertEqual(text_after(add(), name(0, "a"), tag(0, "b"), drop(0), add()), date_text())
        self.assertEqual(last(add(), tag(0, "b"), drop(0), add(), find("b")), [0])

    def test_the_last_one_there_is(self):
        self.assertEqual(text_after(add(), drop(0)), "")
        self.assertEqual(text_after(title("a"), add(), drop(0)), "title:a\n")
        self.check_refused([add(), drop(0)], drop(0), -3)

    def test_add_works_again_after_six(self):
        for which in (0, 3, 5):
            self.assertEqual(ask(*SIX, add(), drop(which), add(2050, 1, 1, 0), add())[6:], [[-5], [5], [5], [-5]])
            self.assertEqual(text_after(*SIX, drop(which), add(2050, 1, 1, 0)),
                             years_text(*without(list(range(6)), which), 50))

    def test_a_new_date_is_the_last_wherever_one_was_dropped(self):
        self.assertEqual(ask(add(), add(), drop(0), add()), [[0], [1], [1], [1]])

    def test_no_such_date(self):
        self.check_refused([], drop(0), -3)
        for which in (2, 3, 6, 20):
            self.check_refused([load(FULL_TEXT)], drop(which), -3)
        self.check_refused(SIX, drop(6), -3)


if __name__ == "__main__":
    unittest.main()
