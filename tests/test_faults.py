"""Promise 1: the faults of a text, with their lines and kinds."""

import unittest

from tests.helper import FULL_TEXT, CalendarCase, add, ask, date_text, fault, last, load, name, ring, text_after

AT = "at:2026-11-16 09:30"
NO_LINES = ("", ":", ":a", "date", "title", "begin", "begin date", "Title:a", "title :a", " title:a", "t1tle:a",
            "ti_tle:a", "abcdefghijklmnopq:a", "x-abcdefghijklmno:a", "\xe4:a", "\\n:a", "-" * 17 + ":")


class FaultCase(CalendarCase):
    def check_fault(self, text, line, kind):
        """The fault is told, and the calendar stays as it was, whether it had anything or not."""
        with self.subTest(text=text):
            self.check_refused([load(FULL_TEXT), ring(0, 9)], load(text), fault(line, kind))
            self.check_refused([add(), name(0, "n")], load(text), fault(line, kind))
            self.check_refused([], load(text), fault(line, kind))


class OutsideOfADate(FaultCase):
    def check_at_each_place(self, line, kind):
        self.check_fault(f"{line}\n", 0, kind)
        self.check_fault(f"title:a\n{line}\n", 1, kind)
        self.check_fault(date_text() + f"{line}\n", 3, kind)
        self.check_fault("title:a\n" + date_text("long:5") * 2 + f"{line}\n" + date_text(), 9, kind)

    def test_1_no_line(self):
        for line in NO_LINES:
            if not line.startswith(" "):
                self.check_at_each_place(line, 1)
        self.check_fault(" title:a\n", 0, 1)

    def test_2_all_others(self):
        for line in ("name:a", AT, "long:5", "ring:5", "tag:a", "end:date", "end:", "x-a:1", "x-:1", "foo:", "-:",
                     "date:begin", "titles:a", "titl:a", "begins:date", "name:", "at:", "long:0", "tag:A",
                     "a" * 16 + ":"):
            self.check_at_each_place(line, 2)

    def test_2_a_title_behind_a_date(self):
        self.check_fault(date_text() + "title:a\n", 3, 2)
        self.check_fault("title:a\n" + date_text() * 6 + "title:b\n", 19, 2)

    def test_2_ahead_of_3_and_4_of_a_title(self):
        self.check_fault(date_text() + "title:\n", 3, 2)
        self.check_fault(date_text() + "title:a,b\n", 3, 2)
        self.check_fault("title:a\n" + date_text() + "title:\n", 4, 2)
        self.check_fault("title:a\n" + date_text() + "title:a\n", 4, 2)

    def test_3_of_a_title(self):
        for value in ("", ",", ";", "a,b", "a;b", "\\", "a\\", "\\a", "\\N", "\\ ", "\\:", "\\\\\\", "a\x00", "\x09", "\x1f",
                      "a\x7fb", "\x0d", "\\\x7f", "a" * 41, "a" * 39 + "\\n\\n"):
            self.check_fault(f"title:{value}\n", 0, 3)
            self.check_fault(f"title:{value}\n" + date_text(), 0, 3)

    def test_3_ahead_of_4_of_a_title(self):
        self.check_fault("title:a\ntitle:\n", 1, 3)
        self.check_fault("title:a\ntitle:" + "b" * 41 + "\n", 1, 3)

    def test_4_of_a_title(self):
        self.check_fault("title:a\ntitle:a\n", 1, 4)
        self.check_fault("title:a\ntitle:b\n" + date_text(), 1, 4)

    def test_3_of_begin(self):
        for value in ("", "Date", "dates", "dat", " date", "date ", "date:", "end", "date\\n"):
            self.check_at_each_place(f"begin:{value}", 3)

    def test_3_ahead_of_4_of_begin(self):
        self.check_fault(date_text() * 6 + "begin:\n", 18, 3)

    def test_4_of_begin(self):
        self.assertEqual(last(load(date_text() * 6)), [6])
        self.check_fault(date_text() * 6 + "begin:date\n", 18, 4)
        self.check_fault(date_text() * 7, 18, 4)


class WithinADate(FaultCase):
    def check_within(self, line, kind, *ahead):
        """Ahead of the time and behind it, in the first date and in a later one."""
        ahead = "".join(had + "\n" for had in ahead)
        many = ahead.count("\n")
        self.check_fault(f"begin:date\n{ahead}{line}\n{AT}\nend:date\n", 1 + many, kind)
        self.check_fault(f"begin:date\n{AT}\n{ahead}{line}\nend:date\n", 2 + many, kind)
        self.check_fault("title:a\n" + date_text() + f"begin:date\n{ahead}{AT}\n{line}\nend:date\n", 6 + many, kind)

    def test_1_no_line(self):
        for line in NO_LINES:
            if not line.startswith(" "):
                self.check_within(line, 1)

    def test_2_begin_and_title(self):
        for line in ("begin:date", "begin:", "begin:a", "title:a", "title:", "title:a,b"):
            self.check_within(line, 2)

    def test_3_of_a_name(self):
        for value in ("", ",", ";", "a,b", "a;b", "\\", "a\\", "\\a", "\\N", "\\\\\\", "\x00", "a\x09", "\x1f", "\x7f", "a" * 41,
                      "\\," * 41):
            self.check_within(f"name:{value}", 3)
            self.check_within(f"name:{value}", 3, "name:b")

    def test_4_of_a_name(self):
        self.check_within("name:a", 4, "name:a")
        self.check_within("name:b", 4, "name:a", "long:5")

    def test_3_of_a_time(self):
        self.check_fault("begin:date\nat:\nend:date\n", 1, 3)
        self.check_fault("begin:date\nlong:5\nat:2026-02-29 00:00\nend:date\n", 2, 3)
        self.check_fault(f"begin:date\n{AT}\nat:2026-02-29 00:00\nend:date\n", 2, 3)

    def test_4_of_a_time(self):
        self.check_fault(f"begin:date\n{AT}\n{AT}\nend:date\n", 2, 4)
        self.check_fault(f"begin:date\n{AT}\nat:2000-01-01 00:00\nend:date\n", 2, 4)
        self.check_fault("begin:date\nat:2000-01-01 00:00\nlong:5\nat:2000-01-01 00:00\nend:date\n", 3, 4)

    def test_3_of_a_length(self):
        for value in ("", "0", "00", "05", "10000", "a"):
            self.check_within(f"long:{value}", 3)
            self.check_within(f"long:{value}", 3, "long:5")

    def test_4_of_a_length(self):
        self.check_within("long:5", 4, "long:5")
        self.check_within("long:1", 4, "long:1")
        self.check_within("long:6", 4, "long:5", "ring:5")

    def test_3_of_a_ring(self):
        for value in ("", "00", "05", "10000", "a"):
            self.check_within(f"ring:{value}", 3)
            self.check_within(f"ring:{value}", 3, "ring:1", "ring:2", "ring:3")

    def test_4_of_a_ring(self):
        self.check_within("ring:5", 4, "ring:5")
        self.check_within("ring:0", 4, "ring:0")
        self.check_within("ring:5", 4, "ring:5", "ring:6")
        self.check_within("ring:4", 4, "ring:1", "ring:2", "ring:3")
        self.check_within("ring:2", 4, "ring:1", "ring:2", "ring:3")

    def test_3_of_tags(self):
        for value in ("", ",", "a,", "A", "abcdefghi", "a,b,c,d,e,f,G", "a,a,"):
            self.check_within(f"tag:{value}", 3)
            self.check_within(f"tag:{value}", 3, "tag:a,b,c,d,e")

    def test_4_of_tags(self):
        self.check_within("tag:a,b,c,d,e,f", 4)
        self.check_within("tag:f", 4, "tag:a,b,c,d,e")
        self.check_within("tag:a", 4, "tag:a,b,c,d,e")
        self.check_within("tag:d,e,f", 4, "tag:a,b,c")
        self.check_within("tag:a,a", 4)
        self.check_within("tag:a,b,a", 4)
        self.check_within("tag:a", 4, "tag:a")
        self.check_within("tag:c,b", 4, "tag:a,b")
        self.check_within("tag:b", 4, "tag:a", "tag:b")

    def test_3_of_end(self):
        for value in ("", "Date", "dates", "dat", " date", "date "):
            self.check_within(f"end:{value}", 3)

    def test_5_of_end(self):
        self.check_fault("begin:date\nend:date\n", 1, 5)
        self.check_fault("begin:date\nname:a\nlong:5\nend:date\n", 3, 5)
        self.check_fault(date_text() + "begin:date\nend:date\n", 4, 5)

    def test_3_ahead_of_5_of_end(self):
        self.check_fault("begin:date\nend:dates\n", 1, 3)

    def test_4_of_others(self):
        self.check_within("x-d:4", 4, "x-a:1", "x-b:2", "x-c:3")
        self.check_within("x-a:1", 4, "x-a:1", "x-a:1", "x-a:1")

    def test_6_all_others(self):
        for line in ("foo:1", "x-:", "x-:1", "x:1", "-:1", "xa-b:1", "names:a", "nam:a", "a:1", "ats:1", "rings:5", "tags:a",
                     "ends:date", "date:a", "-x-a:1", "y-a:1", "titles:a", "a" * 16 + ":"):
            self.check_within(line, 6)
            self.check_within(line, 6, "x-a:1", "x-b:2", "x-c:3")


class WhichLineCounts(FaultCase):
    def test_the_first_one(self):
        self.check_fault("foo:1\ntitle:\n", 0, 2)
        self.check_fault("title:\nfoo:1\n", 0, 3)
        self.check_fault("begin:date\nfoo:1\nbar\n", 1, 6)
        self.check_fault("begin:date\nbar\nfoo:1\n", 1, 1)
        self.check_fault(date_text("long:0", "ring:a", "tag:A"), 2, 3)
        self.check_fault(date_text("name:a", "long:5", "long:6", "name:b"), 4, 4)

    def test_a_line_far_behind(self):
        self.check_fault("begin:date\n" + "x\n" * 340, 1, 1)
        self.check_fault("title:a\n" + date_text("x-a:1", "x-b:2", "x-c:3") * 6 + "\n", 37, 1)


class HowATextEnds(FaultCase):
    def test_1_of_the_last_line_if_no_newline_ends_it(self):
        self.check_fault("title:a", 0, 1)
        self.check_fault(date_text()[:-1], 2, 1)
        self.check_fault("title:a\n" + date_text()[:-1], 3, 1)
        self.check_fault("title:a\n ", 0, 1)
        self.check_fault("title:a\n b", 0, 1)

    def test_its_own_fault_comes_ahead_of_that(self):
        self.check_fault("title:", 0, 3)
        self.check_fault("title:a\ntitle:b", 1, 4)
        self.check_fault("foo:1", 0, 2)
        self.check_fault("begin:date\nfoo:1", 1, 6)
        self.check_fault("begin:date\nend:date", 1, 5)
        self.check_fault("foo", 0, 1)

    def test_an_earlier_fault_comes_ahead_of_that(self):
        self.check_fault("foo:1\ntitle:a", 0, 2)

    def test_1_ahead_of_5(self):
        self.check_fault("begin:date", 0, 1)
        self.check_fault(f"begin:date\n{AT}", 1, 1)
        self.check_fault(date_text() + f"begin:date\n{AT}", 4, 1)

    def test_5_of_the_line_behind_the_last_if_a_date_is_not_ended(self):
        self.check_fault("begin:date\n", 1, 5)
        self.check_fault(f"begin:date\n{AT}\n", 2, 5)
        self.check_fault("title:a\n" + date_text() + f"begin:date\n{AT}\nlong:5\n", 7, 5)
        self.check_fault(f"begin:date\n{AT}\n\n ", 2, 5)
        self.check_fault(date_text() * 5 + f"begin:date\n{AT}\n", 17, 5)

    def test_an_empty_line(self):
        self.check_fault("\n", 0, 1)
        self.check_fault("\n\n", 0, 1)
        self.check_fault("title:a\n\n", 1, 1)
        self.check_fault(date_text() + "\n", 3, 1)


class AFaultChangesNothing(CalendarCase):
    def test_right_lines_ahead_of_it_are_not_taken(self):
        before = [load(FULL_TEXT)]
        self.check_refused(before, load("title:other\n" + date_text("name:new") + "foo:1\n"), fault(5, 2))
        self.check_refused([], load("title:other\n" + date_text("name:new") + "foo:1\n"), fault(5, 2))

    def test_what_comes_behind_it_is_answered_as_ever(self):
        self.assertEqual(ask(load(date_text()), load("foo:1\n"), ring(0, 5), ring(1, 5), load("foo"), add()),
                         [[1], [fault(0, 2)], [1], [-3], [fault(0, 1)], [1]])
        self.assertEqual(text_after(load("foo:1\n"), load("title:a\n")), "title:a\n")


if __name__ == "__main__":
    unittest.main()
