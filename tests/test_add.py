"""Promise 3: a date more."""

import datetime
import unittest

from calendartext.times import day_number, day_parts
from tests.helper import FULL_TEXT, CalendarCase, add, ask, date_text, last, load, text_after

MONTH_ENDS = (31, 28, 31, 30, 31, 30, 31, 31, 30, 31, 30, 31)


class Add(CalendarCase):
    def check_added(self, year, month, day, minute, at):
        with self.subTest(at=at):
            self.assertEqual(last(add(year, month, day, minute)), [0])
            self.assertEqual(text_after(add(year, month, day, minute)), date_text(at=at))

    def check_wrong(self, year, month, day, minute):
        with self.subTest(year=year, month=month, day=day, minute=minute):
            self.check_refused([], add(year, month, day, minute), -1)
            self.check_refused([load(FULL_TEXT)], add(year, month, day, minute), -1)

    def test_ordinary(self):
        self.check_added(2026, 11, 16, 570, "2026-11-16 09:30")
        self.check_added(2008, 8, 9, 1, "2008-08-09 00:01")

    def test_it_is_the_last(self):
        self.assertEqual(ask(add(), add(2001, 1, 1, 0), add()), [[0], [1], [2]])
        self.assertEqual(text_after(add(), add(2001, 1, 1, 0)), date_text() + date_text(at="2001-01-01 00:00"))
        self.assertEqual(last(load(FULL_TEXT), add()), [2])
        self.assertEqual(text_after(load(FULL_TEXT), add()), FULL_TEXT + date_text())

    def test_years(self):
        self.check_wrong(1999, 12, 31, 0)
        self.check_added(2000, 1, 1, 0, "2000-01-01 00:00")
        self.check_added(2099, 12, 31, 0, "2099-12-31 00:00")
        self.check_wrong(2100, 1, 1, 0)
        self.check_wrong(0, 1, 1, 0)
        self.check_wrong(26, 1, 1, 0)
        self.check_wrong(20000, 1, 1, 0)

    def test_months(self):
        self.check_wrong(2026, 0, 1, 0)
        self.check_added(2026, 1, 1, 0, "2026-01-01 00:00")
        self.check_added(2026, 12, 1, 0, "2026-12-01 00:00")
        self.check_wrong(2026, 13, 1, 0)
        self.check_wrong(2026, 20000, 1, 0)

    def test_days_of_each_month(self):
        for month, end in enumerate(MONTH_ENDS, start=1):
            self.check_wrong(2026, month, 0, 0)
            self.check_added(2026, month, 1, 0, f"2026-{month:02}-01 00:00")
            self.check_added(2026, month, end, 0, f"2026-{month:02}-{end:02} 00:00")
            self.check_wrong(2026, month, end + 1, 0)
            self.check_wrong(2026, month, 20000, 0)

    def test_the_29th_of_february(self):
        for year in range(2000, 2100):
            if year % 4 == 0:
                self.check_added(year, 2, 29, 0, f"{year}-02-29 00:00")
                self.check_added(year, 3, 1, 0, f"{year}-03-01 00:00")
                self.check_added(year, 12, 31, 0, f"{year}-12-31 00:00")
                self.check_wrong(year, 2, 30, 0)
            else:
                self.check_added(year, 2, 28, 0, f"{year}-02-28 00:00")
                self.check_added(year, 12, 31, 0, f"{year}-12-31 00:00")
                self.check_wrong(year, 2, 29, 0)

    def test_minutes(self):
        for minute, at in ((0, "00:00"), (1, "00:01"), (59, "00:59"), (60, "01:00"), (599, "09:59"), (600, "10:00"),
                           (1379, "22:59"), (1380, "23:00"), (1439, "23:59")):
            self.check_added(2026, 11, 16, minute, "2026-11-16 " + at)
        self.check_wrong(2026, 11, 16, 1440)
        self.check_wrong(2026, 11, 16, 20000)

    def test_six_dates_and_a_seventh(self):
        self.assertEqual(ask(*[add()] * 6), [[0], [1], [2], [3], [4], [5]])
        self.check_refused([add()] * 6, add(2001, 1, 1, 0), -5)
        self.check_refused([load(date_text() * 6)], add(), -5)
        self.assertEqual(last(load(date_text() * 5), add()), [5])

    def test_minus_1_ahead_of_minus_5(self):
        self.check_refused([add()] * 6, add(2026, 2, 29, 0), -1)
        self.check_refused([add()] * 6, add(2026, 2, 28, 1440), -1)


class DayNumbers(unittest.TestCase):
    def test_each_day_there_and_back(self):
        day = datetime.date(2000, 1, 1)
        for number in range(36525):
            self.assertEqual(day_number(day.year, day.month, day.day), number)
            self.assertEqual(day_parts(number), (day.year, day.month, day.day))
            day += datetime.timedelta(days=1)
        self.assertEqual(day, datetime.date(2100, 1, 1))


if __name__ == "__main__":
    unittest.main()
