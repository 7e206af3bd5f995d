"""Promise 12: whether a text is read as just this calendar."""

import itertools
import unittest

from tests.helper import (FULL_TEXT, CalendarCase, add, ask, date_text, drop, fault, joined, last, load, long, name, other,
                          ring, same, tag, text_after, title)

AT = "at:2026-11-16 09:30"
# One text for each kind of fault, with its line.
FAULTS = (
    ("title", 0, 1), ("title:a", 0, 1), ("\n", 0, 1), (date_text()[:-1], 2, 1), (date_text() + "title:a\n", 3, 2),
    ("foo:1\n", 0, 2), ("begin:date\nbegin:date\n", 1, 2), ("title:\n", 0, 3), ("begin:dates\n", 0, 3),
    (date_text("long:0"), 2, 3), (date_text(at="2026-02-29 09:30"), 1, 3), ("title:a\ntitle:a\n", 1, 4),
    (date_text() * 7, 18, 4), (date_text("ring:1", "ring:1"), 3, 4), ("begin:date\nend:date\n", 1, 5),
    ("begin:date\n", 1, 5), (f"begin:date\n{AT}\n", 2, 5), (date_text("foo:1"), 2, 6), (date_text("x-:1"), 2, 6),
)


class SameCase(CalendarCase):
    def check_same(self, before, text, answer):
        with self.subTest(text=text):
            self.assertLessEqual(len(text), 700)
            self.assertEqual(last(*before, same(text)), [answer])
            self.check_nothing_changes(before, same(text))

    def check_other_text(self, text, other_text):
        """Both are read, and neither is the other."""
        self.check_same([load(text)], text, 1)
        self.check_same([load(text)], other_text, 0)
        self.check_same([load(other_text)], text, 0)


class TheSame(SameCase):
    def test_its_own_told_text(self):
        for before in ([], [load(FULL_TEXT)], [add()], [title("a;\n")], [add()] * 6,
                       [add(), name(0, "\n,;\\" * 10), long(0, 9999), ring(0, 5), ring(0, 0), tag(0, "b"), tag(0, "a"),
                        other(0, "x-b", ""), other(0, "x-a", " " * 60), title("t" * 40)]):
            self.check_same(before, text_after(*before), 1)

    def test_a_text_of_nothing_and_an_empty_calendar(self):
        self.check_same([], "", 1)
        self.check_same([], "\n ", 1)
        self.check_same([load(FULL_TEXT), load("")], "", 1)
        self.check_same([add(), title("a"), drop(0), title("")], "", 1)
        self.check_same([add()], "", 0)
        self.check_same([title("a")], "", 0)
        self.check_same([], date_text(), 0)
        self.check_same([], "title:a\n", 0)

    def test_cut_otherwise(self):
        line = "x-a:" + "0123456789" * 6
        before = [add(), other(0, "x-a", line[4:])]
        text = text_after(*before)
        self.assertIn("\n ", text)
        self.check_same(before, joined(text), 1)
        for size in (1, 2, 7, 24, 30):
            pieces = [joined(text)[start:start + size] for start in range(0, len(joined(text)), size)]
            self.check_same(before, "\n " + "\n ".join(pieces) + "\n \n ", 1)

    def test_the_lines_of_a_date_in_another_order(self):
        lines = ("name:Tea", AT, "ring:5", "tag:home,calm", "x-cups:2")
        before = [load("begin:date\n" + "\n".join(lines) + "\nend:date\n")]
        for turned in itertools.permutations(lines):
            self.assertEqual(last(*before, same("begin:date\n" + "\n".join(turned) + "\nend:date\n")), [1])

    def test_rings_in_another_order(self):
        for turned in itertools.permutations(("ring:5", "ring:10", "ring:100")):
            self.check_same([add(), ring(0, 10), ring(0, 100), ring(0, 5)], date_text(*turned), 1)

    def test_tags_on_several_lines(self):
        before = [load(date_text("tag:a,b,c"))]
        for lines in (("tag:a,b", "tag:c"), ("tag:a", "tag:b,c"), ("tag:a", "tag:b", "tag:c")):
            self.check_same(before, date_text(*lines), 1)

    def test_however_it_came_to_be(self):
        before = [add(), add(2000, 1, 1, 0), drop(1), long(0, 7), long(0, 0), ring(0, 5), ring(0, 5), tag(0, "a"), tag(0, "b"),
                  tag(0, "a"), name(0, "n"), name(0, ""), title("t"), title("")]
        self.check_same(before, date_text("tag:b"), 1)


class NotTheSame(SameCase):
    def test_the_calendars_name(self):
        self.check_other_text("title:a\n", "title:b\n")
        self.check_other_text("title:a\n", "title:aa\n")
        self.check_other_text("title:a\n", "")
        self.check_other_text("title:a\n" + date_text(), date_text())
        self.check_other_text("title:a\\n\n", "title:an\n")

    def test_how_many_dates(self):
        for many, another in itertools.combinations(range(7), 2):
            self.check_other_text(date_text() * many, date_text() * another)

    def test_their_order(self):
        first, second = date_text(at="2026-01-01 00:00"), date_text(at="2026-01-02 00:00")
        self.check_other_text(first + second, second + first)
        self.check_other_text(date_text("tag:a") + date_text(), date_text() + date_text("tag:a"))

    def test_a_time(self):
        for at in ("2026-11-16 09:31", "2026-11-16 10:30", "2026-11-17 09:30", "2026-12-16 09:30", "2027-11-16 09:30"):
            self.check_other_text(date_text(), date_text(at=at))

    def test_a_length(self):
        self.check_other_text(date_text("long:5"), date_text("long:6"))
        self.check_other_text(date_text("long:5"), date_text())

    def test_a_name(self):
        self.check_other_text(date_text("name:a"), date_text("name:b"))
        self.check_other_text(date_text("name:a"), date_text("name:a "))
        self.check_other_text(date_text("name:a"), date_text("name:A"))
        self.check_other_text(date_text("name:a"), date_text())
        self.check_other_text("title:a\n" + date_text("name:b"), "title:b\n" + date_text("name:a"))

    def test_a_ring(self):
        self.check_other_text(date_text("ring:5"), date_text("ring:6"))
        self.check_other_text(date_text("ring:0"), date_text())
        self.check_other_text(date_text("ring:5", "ring:6"), date_text("ring:5"))
        self.check_other_text(date_text("ring:5"), date_text("long:5"))

    def test_tags_and_their_order(self):
        self.check_other_text(date_text("tag:a,b"), date_text("tag:b,a"))
        self.check_other_text(date_text("tag:a,b,c"), date_text("tag:a,c,b"))
        self.check_other_text(date_text("tag:a,b"), date_text("tag:a"))
        self.check_other_text(date_text("tag:ab"), date_text("tag:a,b"))
        self.check_other_text(date_text("tag:a"), date_text())
        self.check_other_text(date_text("tag:a", "tag:b"), date_text("tag:b", "tag:a"))

    def test_others_and_their_order(self):
        self.check_other_text(date_text("x-a:1", "x-b:2"), date_text("x-b:2", "x-a:1"))
        self.check_other_text(date_text("x-a:1"), date_text("x-a:2"))
        self.check_other_text(date_text("x-a:1"), date_text("x-b:1"))
        self.check_other_text(date_text("x-a:1"), date_text("x-a:"))
        self.check_other_text(date_text("x-a:1"), date_text("x-a:1 "))
        self.check_other_text(date_text("x-a:1", "x-a:1"), date_text("x-a:1"))
        self.check_other_text(date_text("x-a:"), date_text())
        self.check_other_text(date_text("x-a:" + "v" * 100), date_text("x-a:" + "v" * 99))

    def test_which_date_has_it(self):
        for line in ("name:a", "long:5", "ring:5", "tag:a", "x-a:1"):
            self.check_other_text(date_text(line) + date_text(), date_text() + date_text(line))
            self.check_other_text(date_text(line) * 2, date_text() + date_text(line))

    def test_after_each_call_that_changes(self):
        for call in (add(), name(0, "b"), long(0, 1), ring(0, 5), tag(0, "calm"), other(1, "x-a", ""), drop(1), title("b"),
                     title(""), load("")):
            self.check_same([load(FULL_TEXT), call], FULL_TEXT, 0)
            self.check_same([load(FULL_TEXT), call], text_after(load(FULL_TEXT), call), 1)

    def test_after_a_refusal(self):
        for call in (add(2026, 2, 29, 0), name(0, [9]), long(0, 10000), ring(5, 5), tag(0, ""), other(1, "x-", ""), drop(2),
                     title("b" * 41), load("foo")):
            self.check_same([load(FULL_TEXT), call], FULL_TEXT, 1)


class AFault(SameCase):
    def test_each_kind(self):
        for text, line, kind in FAULTS:
            for before in ([], [load(FULL_TEXT)], [add()] * 6):
                self.check_same(before, text, fault(line, kind))
                self.assertEqual(last(*before, same(text)), last(*before, load(text)))
        self.assertEqual({kind for text, line, kind in FAULTS}, {1, 2, 3, 4, 5, 6})

    def test_a_fault_comes_ahead_of_a_difference(self):
        self.check_same([load(FULL_TEXT)], FULL_TEXT + "\n", fault(14, 1))
        self.check_same([load(FULL_TEXT)], FULL_TEXT[:-1], fault(13, 1))
        self.check_same([load(FULL_TEXT)], "title:other\nfoo:1\n", fault(1, 2))

    def test_a_line_far_behind(self):
        self.check_same([], "begin:date\n" + "x-a\n " * 100, fault(1, 1))
        self.check_same([], "title:a\n" + date_text("x-a:1", "x-b:2", "x-c:3") * 6 + "\n", fault(37, 1))


class NothingChanges(SameCase):
    def test_the_text_is_not_loaded(self):
        self.assertEqual(text_after(load(FULL_TEXT), same("title:b\n")), FULL_TEXT)
        self.assertEqual(text_after(same(FULL_TEXT)), "")
        self.assertEqual(text_after(load(FULL_TEXT), same(FULL_TEXT), ring(0, 5), same(FULL_TEXT), ring(0, 5)), FULL_TEXT)

    def test_asked_twice(self):
        self.assertEqual(ask(load(FULL_TEXT), *[same(FULL_TEXT), same(""), same("foo")] * 2)[1:],
                         [[1], [0], [fault(0, 1)]] * 2)


if __name__ == "__main__":
    unittest.main()
