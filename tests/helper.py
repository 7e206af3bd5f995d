"""How the tests lay calls in one list and take the answers apart."""

import unittest

from calendartext.calendars import answers

EDGE_BYTES_THAT_MAY_STAND = (10, 32, 33, 43, 44, 45, 58, 59, 60, 91, 92, 93, 110, 125, 126, 128, 129, 254, 255)
EDGE_BYTES_THAT_MAY_NOT = (0, 1, 9, 11, 13, 30, 31, 127)


def row(given):
    return list(given.encode("latin-1")) if isinstance(given, str) else list(given)


def counted(given):
    return [len(row(given))] + row(given)


def load(text):
    return [0] + counted(text)


def told():
    return [1]


def add(year=2026, month=11, day=16, minute=570):
    return [2, year, month, day, minute]


def name(which, given):
    return [3, which] + counted(given)


def long(which, length):
    return [4, which, length]


def ring(which, number):
    return [5, which, number]


def tag(which, given):
    return [6, which] + counted(given)


def other(which, known_as, value):
    return [7, which] + counted(known_as) + counted(value)


def drop(which):
    return [8, which]


def date(which):
    return [9, which]


def find(given):
    return [10] + counted(given)


def same(text):
    return [11] + counted(text)


def cut(given):
    return [12] + counted(given)


def join(given):
    return [13] + counted(given)


def title(given):
    return [14] + counted(given)


def ask(*calls):
    """Answer one list for each call."""
    laid = answers(sum(calls, []))
    parts = []
    while laid:
        size = laid[0]
        part = laid[1:1 + size]
        if size < 1 or len(part) != size:
            raise AssertionError(f"not laid as answers are: {laid}")
        parts.append(part)
        laid = laid[1 + size:]
    if len(parts) != len(calls):
        raise AssertionError(f"{len(calls)} calls, but {len(parts)} answers")
    return parts


def last(*calls):
    return ask(*calls)[-1]


def answered_bytes(*calls):
    """The bytes that the last call answers behind their count, as a text."""
    answer = last(*calls)
    if answer[0] != len(answer) - 1:
        raise AssertionError(f"{answer[0]} bytes are counted, but there are {len(answer) - 1}")
    return bytes(answer[1:]).decode("latin-1")


def text_after(*calls):
    return answered_bytes(*calls, told())


def joined(text):
    return text.replace("\n ", "")


def fault(line, kind):
    return -100 - 10 * line - kind


def date_text(*lines, at="2026-11-16 09:30"):
    """The text of one date: its time, then the given lines."""
    return "".join(line + "\n" for line in ("begin:date", "at:" + at) + lines + ("end:date",))


FULL_TEXT = (
    "title:At home\n"
    "begin:date\nname:Tea\nat:2026-11-16 09:30\nlong:45\nring:5\nring:60\n"
    "tag:home,calm\nx-place:kitchen\nx-cups:2\nend:date\n"
    "begin:date\nat:2030-01-01 00:00\nend:date\n"
)


class CalendarCase(unittest.TestCase):
    def check_refused(self, before, call, refusal):
        """The last call is refused with that number alone, and nothing changes."""
        self.assertEqual(last(*before, call), [refusal])
        self.check_nothing_changes(before, call)

    def check_nothing_changes(self, before, call):
        self.assertEqual(text_after(*before, call), text_after(*before))
        each_date = [date(which) for which in range(7)]
        self.assertEqual(ask(*before, call, *each_date)[-7:], ask(*before, *each_date)[-7:])
