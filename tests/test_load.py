"""Promise 1: what a text is read as."""

import unittest

from tests.helper import (EDGE_BYTES_THAT_MAY_STAND, FULL_TEXT, CalendarCase, add, ask, date_text, fault, joined, last,
                          load, long, text_after)

OTHERWISE = {10: "\\n", 92: "\\\\", 44: "\\,", 59: "\\;"}


class Ordinary(CalendarCase):
    def test_a_text_without_bytes_is_an_empty_calendar(self):
        self.assertEqual(last(load("")), [0])
        self.assertEqual(text_after(load("")), "")

    def test_it_answers_how_many_dates(self):
        self.assertEqual(last(load("title:At home\n")), [0])
        for many in range(7):
            self.assertEqual(last(load(date_text() * many)), [many])

    def test_all_that_a_calendar_has(self):
        self.assertEqual(last(load(FULL_TEXT)), [2])
        self.assertEqual(text_after(load(FULL_TEXT)), FULL_TEXT)

    def test_what_was_there_is_gone(self):
        self.assertEqual(text_after(add(), load("title:b\n")), "title:b\n")
        self.assertEqual(text_after(load(FULL_TEXT), load(date_text())), date_text())
        self.assertEqual(text_after(load(FULL_TEXT), load("")), "")

    def test_dates_keep_their_order(self):
        text = date_text(at="2050-01-01 00:00") + date_text(at="2001-01-01 00:00") + date_text(at="2050-01-01 00:00")
        self.assertEqual(text_after(load(text)), text)

    def test_lines_in_any_order(self):
        text = ("begin:date\nx-b:1\ntag:z\nring:9\nlong:3\nring:7\nx-a:2\ntag:y,x\nname:N\nring:8\n"
                "at:2026-11-16 09:30\nend:date\n")
        self.assertEqual(text_after(load(text)), (
            "begin:date\nname:N\nat:2026-11-16 09:30\nlong:3\nring:7\nring:8\nring:9\ntag:z,y,x\nx-b:1\nx-a:2\n"
            "end:date\n"))

    def test_dates_loaded_do_not_share_what_they_have(self):
        text = date_text("name:a", "long:1", "ring:1", "tag:a", "x-a:a") * 2
        self.assertEqual(last(load(text)), [2])

    def test_loading_twice_then_changing(self):
        self.assertEqual(text_after(load(date_text()), long(0, 5), load(date_text())), date_text())


class PutTogether(CalendarCase):
    def test_a_newline_and_a_blank_are_gone(self):
        self.assertEqual(text_after(load("title:At\n  home\n")), "title:At home\n")
        self.assertEqual(text_after(load("ti\n tle\n :\n ab\n c\n")), "title:abc\n")

    def test_right_behind_one_another(self):
        self.assertEqual(text_after(load("title:a\n \n \n b\n")), "title:ab\n")

    def test_what_comes_beside_one_another_is_not_looked_at_again(self):
        # The second newline goes with the first blank; the first newline and the second blank then stay.
        self.assertEqual(last(load("title:a\n\n  b\n")), [fault(1, 1)])
        self.assertEqual(last(load("title:a\n\n  b")), [fault(1, 1)])

    def test_two_newlines_and_a_blank(self):
        self.assertEqual(ask(load("title:a\n\n begin:date\nat:2026-11-16 09:30\nend:date\n")), [[1]])

    def test_only_one_blank_goes(self):
        self.assertEqual(text_after(load("title:a\n   b\n")), "title:a  b\n")

    def test_at_the_beginning_and_at_the_end(self):
        self.assertEqual(text_after(load("\n title:a\n")), "title:a\n")
        self.assertEqual(last(load("\n ")), [0])
        self.assertEqual(last(load("\n \n ")), [0])
        self.assertEqual(text_after(load("title:a\n\n ")), "title:a\n")

    def test_only_a_newline_ahead_of_a_blank_goes(self):
        self.assertEqual(text_after(load("title:a b\n")), "title:a b\n")
        self.assertEqual(last(load("title:a\n\tb\n")), [fault(1, 1)])
        self.assertEqual(last(load("title:a\r b\n")), [fault(0, 3)])

    def test_within_what_is_told_otherwise(self):
        self.assertEqual(text_after(load("title:a\\\n ,b\n")), "title:a\\,b\n")

    def test_lines_are_counted_as_they_are_put_together(self):
        self.assertEqual(last(load("ti\n tl\n e:a\nbe\n gin:dat\n e\nat:2026-\n 11-16\nend:date\n")), [fault(2, 3)])


class LineNames(CalendarCase):
    def test_sixteen_bytes_and_seventeen(self):
        self.assertEqual(last(load(date_text("x-" + "a" * 14 + ":"))), [1])
        self.assertEqual(last(load(date_text("x-" + "a" * 15 + ":"))), [fault(2, 1)])

    def test_which_bytes(self):
        for byte in range(256):
            sign = bytes([byte]).decode("latin-1")
            right = "a" <= sign <= "z" or sign == "-"
            if sign == "\n" or sign == ":":
                continue
            with self.subTest(byte=byte):
                self.assertEqual(last(load(date_text(f"x-a{sign}:1"))), [1] if right else [fault(2, 1)])
                # A blank at a line's beginning would put it together with the line ahead.
                if sign != " ":
                    self.assertEqual(last(load(date_text(f"{sign}-a:1"))),
                                     [1] if sign == "x" else [fault(2, 6) if right else fault(2, 1)])

    def test_the_value_is_all_behind_the_first_colon(self):
        text = date_text("x-a:b:c::", "x-b::", "x-c:")
        self.assertEqual(text_after(load(text)), text)


class Names(CalendarCase):
    def test_bytes_that_may_stand_there_and_back(self):
        for byte in EDGE_BYTES_THAT_MAY_STAND:
            sign = OTHERWISE.get(byte, bytes([byte]).decode("latin-1"))
            for text in (f"title:a{sign}\n", f"title:{sign}\n"):
                with self.subTest(text=text):
                    self.assertEqual(text_after(load(text)), text)
            text = f"begin:date\nname:{sign}b\nat:2026-11-16 09:30\nend:date\n"
            with self.subTest(text=text):
                self.assertEqual(text_after(load(text)), text)

    def test_forty_bytes_are_counted_as_they_are_meant(self):
        for sign in ("a", "\\n", "\\\\", "\\,", "\\;", "\xff"):
            with self.subTest(sign=sign):
                self.assertEqual(last(load("title:" + sign * 40 + "\n")), [0])
                self.assertEqual(last(load("title:" + sign * 41 + "\n")), [fault(0, 3)])
                self.assertEqual(last(load(date_text("name:" + sign * 40))), [1])
                self.assertEqual(last(load(date_text("name:" + sign * 41))), [fault(2, 3)])

    def test_backslashes_are_taken_from_the_left(self):
        self.assertEqual(text_after(load("title:\\\\n\n")), "title:\\\\n\n")
        self.assertEqual(last(load("title:\\\\\\\n")), [fault(0, 3)])
        self.assertEqual(last(load("title:\\\\,\n")), [fault(0, 3)])
        self.assertEqual(last(load("title:\\\\\\,\n")), [0])


class Times(CalendarCase):
    RIGHT = ("2000-01-01 00:00", "2099-12-31 23:59", "2024-02-29 12:00", "2000-02-29 00:00", "2096-02-29 00:00",
             "2026-01-31 00:00", "2026-02-28 00:00", "2026-03-31 00:00", "2026-04-30 00:00", "2026-05-31 00:00",
             "2026-06-30 00:00", "2026-07-31 00:00", "2026-08-31 00:00", "2026-09-30 00:00", "2026-10-31 00:00",
             "2026-11-30 00:00", "2026-12-31 00:00", "2026-11-16 09:05", "2026-11-16 19:50", "2026-11-16 20:00")
    WRONG = ("", "1999-12-31 00:00", "2100-01-01 00:00", "0000-01-01 00:00", "9999-01-01 00:00", "2026-00-01 00:00",
             "2026-13-01 00:00", "2026-01-00 00:00", "2026-01-32 00:00", "2026-02-29 00:00", "2024-02-30 00:00",
             "2098-02-29 00:00", "2026-03-32 00:00", "2026-04-31 00:00", "2026-05-32 00:00", "2026-06-31 00:00",
             "2026-07-32 00:00", "2026-08-32 00:00", "2026-09-31 00:00", "2026-10-32 00:00", "2026-11-31 00:00",
             "2026-12-32 00:00", "2026-11-16 24:00", "2026-11-16 23:60", "2026-11-16 00:60", "2026-11-16 09:99",
             "2026-11-16 99:00", "2026-11-16", "2026-11-16 ", "2026-11-16 9:30", "2026-11-16 09:3", "26-11-16 09:30",
             "2026-1-16 09:30", "2026-11-6 09:30", "2026-11-16  09:30", "2026-11-16 09:30 ", " 2026-11-16 09:30",
             "2026-11-16T09:30", "2026/11/16 09:30", "2026-11/16 09:30", "2026-11-16 09.30", "2026-11-16 09:300",
             "02026-11-16 09:30", "2026-11-16 09:3a", "2026-11-16 0/:30", "2026-11-16 :9:30", "+026-11-16 09:30",
             "2026-11-16 -9:30", "2026-11-16 09:30:00", "2o26-11-16 09:30", "2026-1:-16 09:30",
             "200:-11-16 09:30", "2026-0:-16 09:30", "2026-11-0: 09:30", "2026-11-16 0::30", "2026-11-16 09:0:",
             "202/-11-16 09:30", "2026-1/-16 09:30", "2026-11-1/ 09:30", "2026-11-16 1/:30", "2026-11-16 09:1/")

    def test_times_there_and_back(self):
        for at in self.RIGHT:
            with self.subTest(at=at):
                self.assertEqual(text_after(load(date_text(at=at))), date_text(at=at))

    def test_no_times(self):
        for at in self.WRONG:
            with self.subTest(at=at):
                self.check_refused([load(FULL_TEXT)], load(date_text(at=at)), fault(1, 3))


class Numbers(CalendarCase):
    RIGHT = ("1", "9", "10", "99", "100", "999", "1000", "1010", "9999")
    WRONG = ("", "00", "01", "007", "0000", "0999", "10000", "99999", "a", "1a", "a1", "-1", "+1", " 1", "1 ", "1.0",
             "1,2", "/", ":", "2/", "1:", "12:", "1_0", "\xb2")

    def test_lengths_and_rings_there_and_back(self):
        for digits in self.RIGHT:
            for line in ("long:" + digits, "ring:" + digits):
                with self.subTest(line=line):
                    self.assertEqual(text_after(load(date_text(line))), date_text(line))

    def test_nought_is_a_ring_but_no_length(self):
        self.assertEqual(text_after(load(date_text("ring:0"))), date_text("ring:0"))
        self.check_refused([load(FULL_TEXT)], load(date_text("long:0")), fault(2, 3))

    def test_no_numbers(self):
        for digits in self.WRONG:
            for line in ("long:" + digits, "ring:" + digits):
                with self.subTest(line=line):
                    self.check_refused([load(FULL_TEXT)], load(date_text(line)), fault(2, 3))


class Rings(CalendarCase):
    def test_they_rise_whatever_their_order(self):
        for lines in (("5", "10", "100"), ("100", "10", "5"), ("10", "100", "5"), ("9999", "0", "1000")):
            text = date_text(*["ring:" + digits for digits in lines])
            rising = date_text(*[f"ring:{number}" for number in sorted(int(digits) for digits in lines)])
            with self.subTest(lines=lines):
                self.assertEqual(text_after(load(text)), rising)


class Tags(CalendarCase):
    RIGHT = ("a", "z", "abcdefgh", "a,b", "b,a", "zzzzzzzz,a,b,c,d", "a,aa,aaa")
    WRONG = ("", ",", "a,", ",a", "a,,b", "abcdefghi", "a,abcdefghi", "A", "a b", "a, b", "a1", "a-b", "x-a", "`", "{",
             "a;b", "a\\,b", "\xe4", "a,b,c,d,e,", "a,b,c,d,e,F", "a,a,")

    def test_tags_there_and_back(self):
        for tags in self.RIGHT:
            with self.subTest(tags=tags):
                self.assertEqual(text_after(load(date_text("tag:" + tags))), date_text("tag:" + tags))

    def test_no_tags(self):
        for tags in self.WRONG:
            with self.subTest(tags=tags):
                self.check_refused([load(FULL_TEXT)], load(date_text("tag:" + tags)), fault(2, 3))

    def test_several_lines_with_tags(self):
        self.assertEqual(text_after(load(date_text("tag:c", "tag:b,a", "tag:e,d"))), date_text("tag:c,b,a,e,d"))

    def test_the_same_tag_on_two_dates(self):
        self.assertEqual(text_after(load(date_text("tag:a") * 2)), date_text("tag:a") * 2)


class Others(CalendarCase):
    def test_any_value_may_stand(self):
        every = "".join(bytes([byte]).decode("latin-1") for byte in range(256) if byte != 10)
        for value in ("", " ", ":", "\\", "\\x,;", "\t\x00\x7f\xff", "v" * 60, "v" * 61, "v" * 600, every):
            with self.subTest(value=value):
                text = text_after(load(date_text("x-a:" + value)))
                self.assertEqual(joined(text), date_text("x-a:" + value))
                self.assertEqual(text_after(load(text)) if len(text) <= 700 else text, text)

    def test_names(self):
        for known_as in ("x-a", "x--", "x-z-z", "x-name", "x-end", "x-" + "z" * 14):
            with self.subTest(known_as=known_as):
                self.assertEqual(text_after(load(date_text(known_as + ":1"))), date_text(known_as + ":1"))

    def test_the_same_other_three_times(self):
        self.assertEqual(text_after(load(date_text("x-a:1", "x-a:1", "x-a:1"))), date_text("x-a:1", "x-a:1", "x-a:1"))


if __name__ == "__main__":
    unittest.main()
