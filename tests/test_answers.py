"""How calls and answers are laid, and that nothing is kept or changed."""

import unittest

from calendartext.calendars import answers
from tests.helper import FULL_TEXT, add, ask, load, long, name, other, ring, row, tag, text_after, told

ALL_CALLS = (
    load(FULL_TEXT), told(), add(2027, 2, 28, 0), name(2, "Rest;\n"), long(2, 30), ring(2, 10), tag(2, "calm"),
    other(2, "x-mood", "good"), told(), ring(7, 1), load("nothing"), told(),
)


class Layout(unittest.TestCase):
    def test_a_number_is_laid_behind_its_count(self):
        self.assertEqual(answers([2, 2026, 11, 16, 570]), [1, 0])

    def test_a_refusal_is_its_number_alone(self):
        self.assertEqual(answers([4, 0, 5]), [1, -3])

    def test_a_fault_is_its_number_alone(self):
        self.assertEqual(answers([0, 1, 65]), [1, -101])

    def test_told_of_nothing(self):
        self.assertEqual(answers([1]), [1, 0])

    def test_told_has_its_count_and_its_bytes(self):
        text = row("begin:date\nat:2026-11-16 09:30\nend:date\n")
        self.assertEqual(answers([2, 2026, 11, 16, 570, 1]), [1, 0, len(text) + 1, len(text)] + text)

    def test_rows_without_numbers(self):
        self.assertEqual(answers([0, 0, 2, 2026, 11, 16, 570, 3, 0, 0, 6, 0, 0, 7, 0, 0, 0, 1])[:10],
                         [1, 0, 1, 0, 1, 0, 1, -1, 1, -1])

    def test_every_call_by_its_number(self):
        calls = [0, 0, 2, 2000, 1, 1, 0, 3, 0, 1, 65, 4, 0, 7, 5, 0, 8, 6, 0, 1, 97, 7, 0, 3, 120, 45, 97, 1, 66, 1]
        text = row("begin:date\nname:A\nat:2000-01-01 00:00\nlong:7\nring:8\ntag:a\nx-a:B\nend:date\n")
        self.assertEqual(answers(calls), [1, 0, 1, 0, 1, 0, 1, 0, 1, 1, 1, 1, 1, 1, len(text) + 1, len(text)] + text)

    def test_numbers_that_look_like_calls_within_rows(self):
        self.assertEqual(ask(add(), name(0, [10, 32, 33]), told())[1], [0])
        self.assertEqual(ask(add(), other(0, "x-a", [0, 1, 2, 3, 4, 5, 6, 7]), told())[1], [1])

    def test_sixty_calls(self):
        self.assertEqual(ask(add(), *[long(0, turn) for turn in range(59)]), [[0], [0]] + [[n] for n in range(58)])

    def test_the_longest_rows(self):
        self.assertEqual(ask(*[load([97] * 700)] * 60), [[-101]] * 60)

    def test_answers_are_whole_numbers_in_a_list(self):
        answered = answers(sum(ALL_CALLS, []))
        self.assertIs(type(answered), list)
        self.assertEqual({type(number) for number in answered}, {int})


class NothingKept(unittest.TestCase):
    def test_what_is_handed_in_stays(self):
        calls = sum(ALL_CALLS, [])
        before = list(calls)
        answers(calls)
        self.assertEqual(calls, before)

    def test_a_second_time_answers_as_the_first(self):
        calls = sum(ALL_CALLS, [])
        first = answers(calls)
        self.assertEqual(answers(calls), first)
        self.assertEqual(answers(list(calls)), first)

    def test_a_new_list_begins_with_nothing(self):
        text_after(load(FULL_TEXT))
        self.assertEqual(text_after(), "")
        self.assertEqual(ask(long(0, 1)), [[-3]])

    def test_the_answers_may_be_changed_without_harm(self):
        calls = sum(ALL_CALLS, [])
        first = answers(calls)
        kept = list(first)
        first.clear()
        self.assertEqual(answers(calls), kept)


class TogetherOnOneCalendar(unittest.TestCase):
    def test_several_calls(self):
        parts = ask(*ALL_CALLS)
        self.assertEqual(parts[0], [2])
        self.assertEqual(parts[2:8], [[2], [0], [0], [1], [1], [1]])
        self.assertEqual(parts[9:11], [[-3], [-101]])
        self.assertEqual(parts[8], parts[11])
        self.assertEqual(bytes(parts[8][1:]).decode(), FULL_TEXT + (
            "begin:date\nname:Rest\\;\\n\nat:2027-02-28 00:00\nlong:30\nring:10\ntag:calm\nx-mood:good\nend:date\n"))

    def test_dates_do_not_share_what_they_have(self):
        text = text_after(add(), add(), name(1, "b"), long(1, 2), ring(1, 3), tag(1, "d"), other(1, "x-e", "f"))
        self.assertEqual(text, "begin:date\nat:2026-11-16 09:30\nend:date\n"
                               "begin:date\nname:b\nat:2026-11-16 09:30\nlong:2\nring:3\ntag:d\nx-e:f\nend:date\n")

    def test_changing_what_was_loaded(self):
        text = text_after(load(FULL_TEXT), name(0, ""), long(0, 0), ring(0, 5), ring(0, 7), tag(0, "home"),
                          tag(0, "late"), other(0, "x-cups", "3"), ring(1, 0))
        self.assertEqual(text, (
            "title:At home\n"
            "begin:date\nat:2026-11-16 09:30\nring:7\nring:60\ntag:calm,late\nx-place:kitchen\nx-cups:2\nx-cups:3\n"
            "end:date\n"
            "begin:date\nat:2030-01-01 00:00\nring:0\nend:date\n"))


if __name__ == "__main__":
    unittest.main()
