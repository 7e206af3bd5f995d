"""The calls that change a calendar, each answering one number."""

from calendartext.dates import MOST_DATES, MOST_NUMBER, MOST_OTHERS, MOST_RINGS, MOST_TAGS, Date
from calendartext.lines import is_other_name
from calendartext.reading import read
from calendartext.refusals import FULL, WRONG
from calendartext.rows import NEWLINE
from calendartext.times import day_number, is_day, is_minute
from calendartext.words import is_name, is_tag

MOST_VALUE_BYTES = 60


def load(calendar, text):
    reading = read(text)
    if reading.fault < 0:
        return reading.fault
    calendar.title = reading.calendar.title
    calendar.dates = reading.calendar.dates
    return len(calendar.dates)


def add_date(calendar, year, month, day, minute):
    if not is_day(year, month, day) or not is_minute(minute):
        return WRONG
    if len(calendar.dates) >= MOST_DATES:
        return FULL
    date = Date()
    date.day = day_number(year, month, day)
    date.minute = minute
    calendar.dates.append(date)
    return len(calendar.dates) - 1


def drop_date(calendar, which):
    calendar.dates.pop(which)
    return len(calendar.dates)


def set_title(calendar, given):
    if not is_name(given):
        return WRONG
    had = len(calendar.title)
    calendar.title = list(given)
    return had


def set_name(date, given):
    if not is_name(given):
        return WRONG
    had = len(date.name)
    date.name = list(given)
    return had


def set_length(date, length):
    if length > MOST_NUMBER:
        return WRONG
    had = date.length
    date.length = length
    return had


def switch_ring(date, number):
    if number > MOST_NUMBER:
        return WRONG
    # Ahead of FULL: taking one away needs no room.
    if number in date.rings:
        date.rings.remove(number)
        return 0
    if len(date.rings) >= MOST_RINGS:
        return FULL
    date.rings = sorted(date.rings + [number])
    return 1


def switch_tag(date, given):
    if not is_tag(given):
        return WRONG
    # Ahead of FULL: taking one away needs no room.
    if given in date.tags:
        date.tags.remove(given)
        return 0
    if len(date.tags) >= MOST_TAGS:
        return FULL
    date.tags.append(list(given))
    return 1


def add_other(date, known_as, value):
    if not is_other_name(known_as):
        return WRONG
    if len(value) > MOST_VALUE_BYTES or NEWLINE in value:
        return WRONG
    if len(date.others) >= MOST_OTHERS:
        return FULL
    date.others.append((list(known_as), list(value)))
    return len(date.others)
