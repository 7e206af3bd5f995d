"""Calls on one calendar, laid in one list, and their answers."""

from calendartext.asking import compare, cut_given, date_numbers, dates_with_tag
from calendartext.changing import add_date, add_other, drop_date, load, set_length, set_name, set_title
from calendartext.changing import switch_ring, switch_tag
from calendartext.dates import Calendar
from calendartext.lines import put_together
from calendartext.refusals import NO_DATE
from calendartext.rows import counted
from calendartext.telling import tell

LOAD = 0
TOLD = 1
ADD = 2
NAME = 3
LONG = 4
RING = 5
TAG = 6
OTHER = 7
DROP = 8
DATE = 9
FIND = 10
SAME = 11
CUT = 12
JOIN = 13

# Of each call, by its number: how many whole numbers it has, and how many rows.
SHAPES = (
    (0, 1), (0, 0), (4, 0), (1, 1), (2, 0), (2, 0), (1, 1), (1, 2), (1, 0), (1, 0),
    (0, 1), (0, 1), (0, 1), (0, 1), (0, 1),
)


def answer_about_date(calendar, call, numbers, rows):
    which = numbers[0]
    if which >= len(calendar.dates):
        return [NO_DATE]
    date = calendar.dates[which]
    if call == NAME:
        return [set_name(date, rows[0])]
    if call == LONG:
        return [set_length(date, numbers[1])]
    if call == RING:
        return [switch_ring(date, numbers[1])]
    if call == TAG:
        return [switch_tag(date, rows[0])]
    if call == OTHER:
        return [add_other(date, rows[0], rows[1])]
    if call == DROP:
        return [drop_date(calendar, which)]
    return date_numbers(date)


def answer_about_row(calendar, call, row):
    if call == LOAD:
        return [load(calendar, row)]
    if call == FIND:
        return counted(dates_with_tag(calendar, row))
    if call == SAME:
        return [compare(calendar, row)]
    if call == CUT:
        return cut_given(row)
    if call == JOIN:
        return counted(put_together(row))
    return [set_title(calendar, row)]


def answer(calendar, call, numbers, rows):
    """Answer the list of numbers that one call answers."""
    if call == TOLD:
        return counted(tell(calendar))
    if call == ADD:
        return [add_date(calendar, numbers[0], numbers[1], numbers[2], numbers[3])]
    if NAME <= call <= DATE:
        return answer_about_date(calendar, call, numbers, rows)
    return answer_about_row(calendar, call, rows[0])


def answers(calls):
    calendar = Calendar()
    answered = []
    place = 0
    while place < len(calls):
        call = calls[place]
        shape = SHAPES[call]
        place += 1
        numbers = calls[place:place + shape[0]]
        place += shape[0]
        rows = []
        while len(rows) < shape[1]:
            size = calls[place]
            rows.append(calls[place + 1:place + 1 + size])
            place += 1 + size
        answered.extend(counted(answer(calendar, call, numbers, rows)))
    return answered
