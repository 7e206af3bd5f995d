"""How calls and answers are laid, and that nothing is kept or changed."""

import unittest

from calendartext.calendars import answers
from tests.helper import (FULL_TEXT, CalendarCase, add, ask, cut, date, drop, find, join, last, load, long, name, other, ring,
                          row, same, tag, text_after, title, told)

ALL_CALLS = (
    load(FULL_TEXT), told(), add(2027, 2, 28, 0), name(2, "Rest;\n"), long(2, 30), ring(2, 10), tag(2, "calm"),
    other(2, "x-mood", "good"), told(), ring(7, 1), load("nothing"), told(), date(2), find("calm"), same(FULL_TEXT),
    cut("x-place:in the kitchen, upstairs"), join("a\n b\n"), title("Away"), drop(0), drop(2), date(1), find("calm"),
    find("home"), same("nothing"), cut("\n"), title("\t"), told(),
)
# Every way in which a call is refused when FULL_TEXT is loaded.
REFUSED = (
    load("nothing"), load(FULL_TEXT[:-1]), add(2026, 2, 29, 0), add(2026, 2, 28, 1440), name(2, "a"), name(0, "a" * 41),
    name(0, "\t"), long(2, 1), long(0, 10000), ring(2, 1), ring(0, 10000), tag(2, "a"), tag(0, ""), tag(0, "A"),
    other(2, "x-a", ""), other(0, "a", ""), other(0, "x-a", "\n"), other(0, "x-a", "v" * 61), drop(2), date(2),
    same("nothing"), same(FULL_TEXT[:-1]), cut("\n"), title("a" * 41), title("\t"),
)


class Layout(unittest.TestCase):
    def test_a_number_is_laid_behind_its_count(self):
        self.assertEqual(answers([2, 2026, 11, 16, 570]), [1, 0])

    def test_a_refusal_is_its_number_alone(self):
        self.assertEqual(answers([4, 0, 5]), [1, -3])

    def test_a_fault_is_its_number_alone(self):
        self.assertEqual(answers([0, 1, 65]), [1, -101])

    def test_told_of_nothing(self):
        self.assertEqual(answers([1]), [1, 0])

    def test_told_has_its_count_and_its_bytes(self):
        text = row("begin:date\nat:2026-11-16 09:30\nend:date\n")
        self.assertEqual(answers([2, 2026, 11, 16, 570, 1]), [1, 0, len(text) + 1, len(text)] + text)

    def test_rows_without_numbers(self):
        self.assertEqual(answers([0, 0, 2, 2026, 11, 16, 570, 3, 0, 0, 6, 0, 0, 7, 0, 0, 0, 1])[:10],
                         [1, 0, 1, 0, 1, 0, 1, -1, 1, -1])

    def test_every_call_by_its_number(self):
        calls = [0, 0, 2, 2000, 1, 1, 0, 3, 0, 1, 65, 4, 0, 7, 5, 0, 8, 6, 0, 1, 97, 7, 0, 3, 120, 45, 97, 1, 66, 1]
        text = row("begin:date\nname:A\nat:2000-01-01 00:00\nlong:7\nring:8\ntag:a\nx-a:B\nend:date\n")
        self.assertEqual(answers(calls), [1, 0, 1, 0, 1, 0, 1, 0, 1, 1, 1, 1, 1, 1, len(text) + 1, len(text)] + text)

    def test_the_later_calls_by_their_numbers(self):
        calls = [14, 1, 65, 2, 2000, 1, 2, 3, 6, 0, 1, 97, 7, 0, 3, 120, 45, 97, 0, 9, 0, 10, 1, 97, 11, 0, 12, 1, 66,
                 13, 3, 67, 10, 32, 8, 0, 14, 0, 11, 0]
        self.assertEqual(answers(calls), [
            1, 0, 1, 0, 1, 1, 1, 1, 14, 1, 3, 0, 0, 0, 1, 1, 97, 1, 3, 120, 45, 97, 0, 2, 1, 0, 1, 0, 2, 1, 66, 2, 1, 67, 1, 0,
            1, 1, 1, 1])

    def test_later_rows_without_numbers(self):
        self.assertEqual(answers([10, 0, 11, 0, 12, 0, 13, 0, 14, 0]), [1, 0, 1, 1, 1, 0, 1, 0, 1, 0])

    def test_any_call_may_be_the_first(self):
        for call, expected in ((load(""), [0]), (told(), [0]), (add(), [0]), (name(0, ""), [-3]), (long(0, 0), [-3]),
                               (ring(0, 0), [-3]), (tag(0, ""), [-3]), (other(0, "", ""), [-3]), (drop(0), [-3]),
                               (date(0), [-3]), (find(""), [0]), (same(""), [1]), (cut(""), [0]), (join(""), [0]),
                               (title(""), [0])):
            self.assertEqual(ask(call), [expected])

    def test_numbers_that_look_like_calls_within_rows(self):
        self.assertEqual(ask(add(), name(0, [10, 32, 33]), told())[1], [0])
        self.assertEqual(ask(add(), other(0, "x-a", [0, 1, 2, 3, 4, 5, 6, 7]), told())[1], [1])

    def test_sixty_calls(self):
        self.assertEqual(ask(add(), *[long(0, turn) for turn in range(59)]), [[0], [0]] + [[n] for n in range(58)])

    def test_the_longest_rows(self):
        self.assertEqual(ask(*[load([97] * 700)] * 60), [[-101]] * 60)
        self.assertEqual(ask(*[same([97] * 700)] * 60), [[-101]] * 60)
        self.assertEqual(ask(*[join([97] * 700)] * 60), [[700] + [97] * 700] * 60)
        self.assertEqual({tuple(part[:1]) for part in ask(*[cut([97] * 700)] * 60)}, {(760,)})
        self.assertEqual(ask(*[find([97] * 700), title([97] * 700)] * 30), [[0], [-1]] * 30)

    def test_answers_are_whole_numbers_in_a_list(self):
        answered = answers(sum(ALL_CALLS, []))
        self.assertIs(type(answered), list)
        self.assertEqual({type(number) for number in answered}, {int})


class NothingKept(unittest.TestCase):
    def test_what_is_handed_in_stays(self):
        calls = sum(ALL_CALLS, [])
        before = list(calls)
        answers(calls)
        self.assertEqual(calls, before)

    def test_a_second_time_answers_as_the_first(self):
        calls = sum(ALL_CALLS, [])
        first = answers(calls)
        self.assertEqual(answers(calls), first)
        self.assertEqual(answers(list(calls)), first)

    def test_a_new_list_begins_with_nothing(self):
        text_after(load(FULL_TEXT))
        self.assertEqual(text_after(), "")
        self.assertEqual(ask(long(0, 1)), [[-3]])

    def test_the_answers_may_be_changed_without_harm(self):
        calls = sum(ALL_CALLS, [])
        first = answers(calls)
        kept = list(first)
        first.clear()
        self.assertEqual(answers(calls), kept)


class TogetherOnOneCalendar(unittest.TestCase):
    def test_several_calls(self):
        parts = ask(*ALL_CALLS)
        self.assertEqual(parts[0], [2])
        self.assertEqual(parts[2:8], [[2], [0], [0], [1], [1], [1]])
        self.assertEqual(parts[9:11], [[-3], [-101]])
        self.assertEqual(parts[8], parts[11])
        self.assertEqual(parts[13:15], [[2, 0, 2], [0]])
        self.assertEqual(parts[16:20], [[3, 97, 98, 10], [7], [2], [-3]])
        self.assertEqual(parts[20], parts[12])
        self.assertEqual(parts[21:26], [[1, 1], [0], [-101], [-1], [-1]])
        self.assertEqual(bytes(parts[26][1:]).decode(), (
            "title:Away\nbegin:date\nat:2030-01-01 00:00\nend:date\n"
            "begin:date\nname:Rest\\;\\n\nat:2027-02-28 00:00\nlong:30\nring:10\ntag:calm\nx-mood:good\nend:date\n"))
        self.assertEqual(bytes(parts[8][1:]).decode(), FULL_TEXT + (
            "begin:date\nname:Rest\\;\\n\nat:2027-02-28 00:00\nlong:30\nring:10\ntag:calm\nx-mood:good\nend:date\n"))

    def test_dates_do_not_share_what_they_have(self):
        text = text_after(add(), add(), name(1, "b"), long(1, 2), ring(1, 3), tag(1, "d"), other(1, "x-e", "f"))
        self.assertEqual(text, "begin:date\nat:2026-11-16 09:30\nend:date\n"
                               "begin:date\nname:b\nat:2026-11-16 09:30\nlong:2\nring:3\ntag:d\nx-e:f\nend:date\n")

    def test_changing_what_was_loaded(self):
        text = text_after(load(FULL_TEXT), name(0, ""), long(0, 0), ring(0, 5), ring(0, 7), tag(0, "home"),
                          tag(0, "late"), other(0, "x-cups", "3"), ring(1, 0))
        self.assertEqual(text, (
            "title:At home\n"
            "begin:date\nat:2026-11-16 09:30\nring:7\nring:60\ntag:calm,late\nx-place:kitchen\nx-cups:2\nx-cups:3\n"
            "end:date\n"
            "begin:date\nat:2030-01-01 00:00\nring:0\nend:date\n"))

    def test_sixty_calls_of_all_kinds(self):
        parts = ask(*(ALL_CALLS * 3)[:60])
        self.assertEqual(parts[:27], parts[27:54])
        self.assertEqual(parts[54:], parts[:6])


class Refusals(CalendarCase):
    def test_a_refusal_is_a_number_below_0_alone_and_nothing_changes(self):
        for call in REFUSED:
            with self.subTest(call=call):
                answer = last(load(FULL_TEXT), call)
                self.assertEqual(len(answer), 1)
                self.check_refused([load(FULL_TEXT)], call, answer[0])
                self.assertLess(answer[0], 0)
                self.assertEqual(ask(load(FULL_TEXT), call, same(FULL_TEXT)), [[2], answer, [1]])

    def test_all_of_them_one_behind_another(self):
        alone = [last(load(FULL_TEXT), call) for call in REFUSED]
        self.assertEqual(ask(load(FULL_TEXT), *REFUSED, same(FULL_TEXT)), [[2]] + alone + [[1]])


if __name__ == "__main__":
    unittest.main()
