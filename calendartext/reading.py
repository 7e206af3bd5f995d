"""A text read as a calendar, or the fault of its first wrong line."""

from calendartext.dates import MOST_DATES, MOST_OTHERS, MOST_RINGS, MOST_TAGS, Calendar, Date
from calendartext.lines import is_ended, is_other_name, lines_of, name_size, put_together
from calendartext.rows import row_of
from calendartext.times import DAY_MINUTES, read_time
from calendartext.words import read_name, read_number, read_tags

RIGHT = 0
NO_LINE = 1
MISPLACED = 2
WRONG_VALUE = 3
TOO_MANY = 4
UNFINISHED = 5
UNKNOWN = 6


class Reading:
    """The calendar as far as it is read; fault is 0, or the fault as it is answered."""

    def __init__(self):
        self.calendar = Calendar()
        self.within_date = False
        self.fault = 0


def told_fault(line_number, kind):
    return -100 - 10 * line_number - kind


def read_title(calendar, value):
    if len(calendar.dates) > 0:
        return MISPLACED
    meant = read_name(value)
    if len(meant) == 0:
        return WRONG_VALUE
    if len(calendar.title) > 0:
        return TOO_MANY
    calendar.title = meant
    return RIGHT


def read_begin(reading, value):
    if value != row_of("date"):
        return WRONG_VALUE
    if len(reading.calendar.dates) >= MOST_DATES:
        return TOO_MANY
    reading.calendar.dates.append(Date())
    reading.within_date = True
    return RIGHT


def read_end(reading, date, value):
    if value != row_of("date"):
        return WRONG_VALUE
    if date.day is None:
        return UNFINISHED
    reading.within_date = False
    return RIGHT


def read_date_name(date, value):
    meant = read_name(value)
    if len(meant) == 0:
        return WRONG_VALUE
    if len(date.name) > 0:
        return TOO_MANY
    date.name = meant
    return RIGHT


def read_at(date, value):
    minutes = read_time(value)
    if minutes < 0:
        return WRONG_VALUE
    if date.day is not None:
        return TOO_MANY
    date.day = minutes // DAY_MINUTES
    date.minute = minutes % DAY_MINUTES
    return RIGHT


def read_long(date, value):
    length = read_number(value)
    if length < 1:
        return WRONG_VALUE
    if date.length > 0:
        return TOO_MANY
    date.length = length
    return RIGHT


def read_ring(date, value):
    number = read_number(value)
    if number < 0:
        return WRONG_VALUE
    if number in date.rings or len(date.rings) >= MOST_RINGS:
        return TOO_MANY
    date.rings = sorted(date.rings + [number])
    return RIGHT


def has_one_twice(tags):
    for place, tag in enumerate(tags):
        if tag in tags[:place]:
            return True
    return False


def read_tag(date, value):
    tags = read_tags(value)
    if len(tags) == 0:
        return WRONG_VALUE
    together = date.tags + tags
    if len(together) > MOST_TAGS or has_one_twice(together):
        return TOO_MANY
    date.tags = together
    return RIGHT


def read_other(date, name, value):
    if len(date.others) >= MOST_OTHERS:
        return TOO_MANY
    date.others.append((name, value))
    return RIGHT


def read_outside(reading, name, value):
    if name == row_of("title"):
        return read_title(reading.calendar, value)
    if name == row_of("begin"):
        return read_begin(reading, value)
    return MISPLACED


def read_within(reading, name, value):
    date = reading.calendar.dates[-1]
    if name == row_of("name"):
        return read_date_name(date, value)
    if name == row_of("at"):
        return read_at(date, value)
    if name == row_of("long"):
        return read_long(date, value)
    if name == row_of("ring"):
        return read_ring(date, value)
    if name == row_of("tag"):
        return read_tag(date, value)
    if name == row_of("end"):
        return read_end(reading, date, value)
    if is_other_name(name):
        return read_other(date, name, value)
    if name == row_of("begin") or name == row_of("title"):
        return MISPLACED
    return UNKNOWN


def read_line(reading, line):
    """Answer the fault's kind, or RIGHT."""
    size = name_size(line)
    if size == 0:
        return NO_LINE
    name = line[:size]
    value = line[size + 1:]
    if reading.within_date:
        return read_within(reading, name, value)
    return read_outside(reading, name, value)


def read_lines(reading, lines):
    """Answer the first fault, or 0."""
    for number, line in enumerate(lines):
        kind = read_line(reading, line)
        if kind != RIGHT:
            return told_fault(number, kind)
    return 0


def read(text):
    reading = Reading()
    joined = put_together(text)
    lines = lines_of(joined)
    reading.fault = read_lines(reading, lines)
    if reading.fault == 0:
        if not is_ended(joined):
            reading.fault = told_fault(len(lines) - 1, NO_LINE)
        elif reading.within_date:
            reading.fault = told_fault(len(lines), UNFINISHED)
    return reading
