"""The calls that ask and change nothing."""

from calendartext.lines import cut_line
from calendartext.reading import read
from calendartext.refusals import WRONG
from calendartext.rows import NEWLINE, counted


def date_numbers(date):
    """Answer all that a date has; each part's count stands ahead of it, so no two dates have the same numbers."""
    numbers = [date.day, date.minute, date.length]
    numbers.extend(counted(date.name))
    numbers.extend(counted(date.rings))
    numbers.append(len(date.tags))
    for tag in date.tags:
        numbers.extend(counted(tag))
    numbers.append(len(date.others))
    for other in date.others:
        numbers.extend(counted(other[0]))
        numbers.extend(counted(other[1]))
    return numbers


def dates_with_tag(calendar, given):
    return [number for number, date in enumerate(calendar.dates) if given in date.tags]


def has_the_same(calendar, another):
    if calendar.title != another.title:
        return False
    return [date_numbers(date) for date in calendar.dates] == [date_numbers(date) for date in another.dates]


def compare(calendar, text):
    reading = read(text)
    if reading.fault < 0:
        return reading.fault
    return 1 if has_the_same(calendar, reading.calendar) else 0


def cut_given(line):
    """Answer the count and the pieces, or a refusal: with a newline it would be more than one line."""
    if NEWLINE in line:
        return [WRONG]
    return counted(cut_line(line))
