"""A calendar told as a text."""

from calendartext.lines import cut_line
from calendartext.rows import COLON, COMMA, NEWLINE, row_of
from calendartext.times import tell_time
from calendartext.words import tell_name


def line_of(word, value):
    return row_of(word) + [COLON] + value


def tell_tags(tags):
    told = list(tags[0])
    for tag in tags[1:]:
        told.append(COMMA)
        told.extend(tag)
    return told


def date_lines(date):
    lines = [line_of("begin", row_of("date"))]
    if len(date.name) > 0:
        lines.append(line_of("name", tell_name(date.name)))
    lines.append(line_of("at", tell_time(date.day, date.minute)))
    if date.length > 0:
        lines.append(line_of("long", row_of(str(date.length))))
    for ring in date.rings:
        lines.append(line_of("ring", row_of(str(ring))))
    if len(date.tags) > 0:
        lines.append(line_of("tag", tell_tags(date.tags)))
    for other in date.others:
        lines.append(other[0] + [COLON] + other[1])
    lines.append(line_of("end", row_of("date")))
    return lines


def calendar_lines(calendar):
    lines = []
    if len(calendar.title) > 0:
        lines.append(line_of("title", tell_name(calendar.title)))
    for date in calendar.dates:
        lines.extend(date_lines(date))
    return lines


def tell(calendar):
    told = []
    for line in calendar_lines(calendar):
        told.extend(cut_line(line))
        told.append(NEWLINE)
    return told
