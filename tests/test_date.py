"""Promise 10: all that a date has."""

import datetime
import unittest

from tests.helper import (FULL_TEXT, CalendarCase, add, ask, counted, date, date_text, drop, last, load, long, name, other,
                          ring, row, tag)

DAY = (datetime.date(2026, 11, 16) - datetime.date(2000, 1, 1)).days
NOTHING_ELSE = [0, 0, 0, 0]


class Date(CalendarCase):
    def test_nothing_but_its_time(self):
        self.assertEqual(last(add(), date(0)), [DAY, 570, 0] + NOTHING_ELSE)
        self.assertEqual(last(load(date_text()), date(0)), [DAY, 570, 0] + NOTHING_ELSE)

    def test_days(self):
        for year, month, day, number in ((2000, 1, 1, 0), (2000, 1, 2, 1), (2000, 2, 28, 58), (2000, 2, 29, 59),
                                         (2000, 3, 1, 60), (2000, 12, 31, 365), (2001, 1, 1, 366), (2004, 2, 29, 1520),
                                         (2099, 12, 30, 36523), (2099, 12, 31, 36524)):
            with self.subTest(year=year, month=month, day=day):
                self.assertEqual(last(add(year, month, day, 0), date(0)), [number, 0, 0] + NOTHING_ELSE)
                text = date_text(at=f"{year}-{month:02}-{day:02} 23:59")
                self.assertEqual(last(load(text), date(0)), [number, 1439, 0] + NOTHING_ELSE)

    def test_the_29th_of_february_of_each_leap_year(self):
        for year in range(2000, 2100, 4):
            number = (datetime.date(year, 2, 29) - datetime.date(2000, 1, 1)).days
            self.assertEqual(last(add(year, 2, 29, 1), date(0)), [number, 1, 0] + NOTHING_ELSE)

    def test_minutes(self):
        for minute in (0, 1, 59, 60, 570, 1438, 1439):
            self.assertEqual(last(add(2026, 11, 16, minute), date(0)), [DAY, minute, 0] + NOTHING_ELSE)
        self.assertEqual(last(load(date_text(at="2026-11-16 23:01")), date(0)), [DAY, 1381, 0] + NOTHING_ELSE)

    def test_each_part_alone(self):
        for call, expected in (
                (long(0, 45), [45, 0, 0, 0, 0]), (long(0, 9999), [9999, 0, 0, 0, 0]),
                (name(0, "Tea"), [0, 3, 84, 101, 97, 0, 0, 0]), (name(0, "\n,;\\"), [0, 4, 10, 44, 59, 92, 0, 0, 0]),
                (ring(0, 15), [0, 0, 1, 15, 0, 0]), (ring(0, 0), [0, 0, 1, 0, 0, 0]),
                (tag(0, "ab"), [0, 0, 0, 1, 2, 97, 98, 0]),
                (other(0, "x-a", "BC"), [0, 0, 0, 0, 1, 3, 120, 45, 97, 2, 66, 67]),
                (other(0, "x-a", ""), [0, 0, 0, 0, 1, 3, 120, 45, 97, 0])):
            with self.subTest(call=call):
                self.assertEqual(last(add(), call, date(0)), [DAY, 570] + expected)

    def test_all_parts_in_their_order(self):
        calls = [add(), other(0, "x-b", ""), tag(0, "z"), ring(0, 20), ring(0, 3), other(0, "x-a", ":,"), long(0, 45),
                 name(0, "N;"), tag(0, "abcdefgh"), ring(0, 100), tag(0, "y"), other(0, "x-b", "")]
        self.assertEqual(last(*calls, date(0)), (
            [DAY, 570, 45] + counted("N;") + [3, 3, 20, 100] + [3] + counted("z") + counted("abcdefgh") + counted("y")
            + [3] + counted("x-b") + [0] + counted("x-a") + counted(":,") + counted("x-b") + [0]))

    def test_as_much_as_a_date_can_have(self):
        tags = ["abcdefg" + letter for letter in "edcba"]
        values = [[byte for byte in range(start, start + 61) if byte != 10][:60] for start in (0, 100, 195)]
        known_as = ["x-" + letter * 14 for letter in "cab"]
        calls = [add(2099, 12, 31, 1439), name(0, "\n" * 40), long(0, 9999), ring(0, 9999), ring(0, 0), ring(0, 5000)]
        calls += [tag(0, given) for given in tags] + [other(0, *given) for given in zip(known_as, values)]
        expected = [36524, 1439, 9999, 40] + [10] * 40 + [3, 0, 5000, 9999, 5]
        for given in tags:
            expected += counted(given)
        expected += [3]
        for given in zip(known_as, values):
            expected += counted(given[0]) + counted(given[1])
        self.assertEqual(last(*calls, date(0)), expected)

    def test_what_was_loaded(self):
        self.assertEqual(last(load(FULL_TEXT), date(0)), (
            [DAY, 570, 45] + counted("Tea") + [2, 5, 60] + [2] + counted("home") + counted("calm")
            + [2] + counted("x-place") + counted("kitchen") + counted("x-cups") + counted("2")))
        self.assertEqual(last(load(FULL_TEXT), date(1)), [10958, 0, 0] + NOTHING_ELSE)

    def test_names_are_told_as_they_are_meant(self):
        self.assertEqual(last(load(date_text("name:a\\n\\\\\\,\\;n")), date(0)), [DAY, 570, 0] + counted("a\n\\,;n") + [0, 0, 0])

    def test_values_of_others_stand_as_they_are(self):
        value = "\\n\\,;:\x00\xff" + "v" * 300
        self.assertEqual(last(load(date_text("x-a:" + value)), date(0)),
                         [DAY, 570, 0, 0, 0, 0, 1] + counted("x-a") + counted(value))

    def test_rings_rise_whatever_their_lines_order(self):
        self.assertEqual(last(load(date_text("ring:100", "ring:9", "ring:20")), date(0)), [DAY, 570, 0, 0, 3, 9, 20, 100, 0, 0])

    def test_what_was_taken_away(self):
        self.assertEqual(last(add(), long(0, 5), long(0, 0), name(0, "a"), name(0, ""), ring(0, 5), ring(0, 5), tag(0, "a"),
                              tag(0, "a"), date(0)), [DAY, 570, 0] + NOTHING_ELSE)

    def test_which_date(self):
        calls = [add(2000, 1, 1 + number, number) for number in range(6)]
        for number in range(6):
            self.assertEqual(last(*calls, date(number)), [number, number, 0] + NOTHING_ELSE)
        self.assertEqual(last(*calls, drop(1), date(1)), [2, 2, 0] + NOTHING_ELSE)

    def test_asking_changes_nothing(self):
        self.check_nothing_changes([load(FULL_TEXT)], date(0))
        parts = ask(load(FULL_TEXT), date(0), date(1), date(0))
        self.assertEqual(parts[1], parts[3])

    def test_no_such_date(self):
        self.check_refused([], date(0), -3)
        for which in (2, 3, 6, 20):
            self.check_refused([load(FULL_TEXT)], date(which), -3)
        self.check_refused([add(), drop(0)], date(0), -3)

    def test_just_its_counts(self):
        self.assertEqual(len(last(add(), name(0, row("abc")), date(0))), 3 + 4 + 1 + 1 + 1)


if __name__ == "__main__":
    unittest.main()
