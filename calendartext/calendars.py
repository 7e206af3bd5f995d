"""Calls on one calendar, laid in one list, and their answers."""

from calendartext.changing import add_date, add_other, load, set_length, set_name, switch_ring, switch_tag
from calendartext.dates import Calendar
from calendartext.telling import tell

LOAD = 0
TOLD = 1
ADD = 2
NAME = 3
LONG = 4
RING = 5
TAG = 6

# Of each call, by its number: how many whole numbers it has, and how many rows.
SHAPES = ((0, 1), (0, 0), (4, 0), (1, 1), (2, 0), (2, 0), (1, 1), (1, 2))

NO_DATE = -3


def answer_about_date(calendar, call, numbers, rows):
    if numbers[0] >= len(calendar.dates):
        return NO_DATE
    date = calendar.dates[numbers[0]]
    if call == NAME:
        return set_name(date, rows[0])
    if call == LONG:
        return set_length(date, numbers[1])
    if call == RING:
        return switch_ring(date, numbers[1])
    if call == TAG:
        return switch_tag(date, rows[0])
    return add_other(date, rows[0], rows[1])


def answer(calendar, call, numbers, rows):
    """Answer the list of numbers that one call answers."""
    if call == LOAD:
        return [load(calendar, rows[0])]
    if call == TOLD:
        told = tell(calendar)
        return [len(told)] + told
    if call == ADD:
        return [add_date(calendar, numbers[0], numbers[1], numbers[2], numbers[3])]
    return [answer_about_date(calendar, call, numbers, rows)]


def answers(calls):
    calendar = Calendar()
    answered = []
    place = 0
    while place < len(calls):
        call = calls[place]
        shape = SHAPES[call]
        place += 1
        numbers = calls[place:place + shape[0]]
        place += shape[0]
        rows = []
        while len(rows) < shape[1]:
            size = calls[place]
            rows.append(calls[place + 1:place + 1 + size])
            place += 1 + size
        answer_numbers = answer(calendar, call, numbers, rows)
        answered.append(len(answer_numbers))
        answered.extend(answer_numbers)
    return answered
