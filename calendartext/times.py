"""Days, numbered from the 1st of January 2000 on, and times as they are told."""

from calendartext.rows import is_digit, number_of, row_of

FIRST_YEAR = 2000
LAST_YEAR = 2099
MONTH_DAYS = (31, 28, 31, 30, 31, 30, 31, 31, 30, 31, 30, 31)
DAY_MINUTES = 1440
TIME_FORM = "0000-00-00 00:00"


def days_of_year(year):
    return 366 if year % 4 == 0 else 365


def days_of_month(year, month):
    if month == 2 and year % 4 == 0:
        return 29
    return MONTH_DAYS[month - 1]


def is_day(year, month, day):
    if year < FIRST_YEAR or year > LAST_YEAR or month < 1 or month > 12:
        return False
    return 1 <= day <= days_of_month(year, month)


def is_minute(minute):
    return 0 <= minute < DAY_MINUTES


def day_number(year, month, day):
    before_year = sum([days_of_year(past) for past in range(FIRST_YEAR, year)])
    before_month = sum([days_of_month(year, past) for past in range(1, month)])
    return before_year + before_month + day - 1


def day_parts(number):
    """Answer the year, the month and the day of the month."""
    year = FIRST_YEAR
    left = number
    while left >= days_of_year(year):
        left -= days_of_year(year)
        year += 1
    month = 1
    while left >= days_of_month(year, month):
        left -= days_of_month(year, month)
        month += 1
    return (year, month, left + 1)


def two_digits(number):
    return str(number).zfill(2)


def tell_time(day, minute):
    parts = day_parts(day)
    year = parts[0]
    month = two_digits(parts[1])
    month_day = two_digits(parts[2])
    hour = two_digits(minute // 60)
    rest = two_digits(minute % 60)
    return row_of(f"{year}-{month}-{month_day} {hour}:{rest}")


def has_time_form(value):
    if len(value) != len(TIME_FORM):
        return False
    for sign, byte in zip(TIME_FORM, value):
        if sign == "0":
            if not is_digit(byte):
                return False
        elif byte != ord(sign):
            return False
    return True


def read_time(value):
    """Answer the minutes since day 0 began, or -1 if the value is no time."""
    if not has_time_form(value):
        return -1
    year = number_of(value[0:4])
    month = number_of(value[5:7])
    day = number_of(value[8:10])
    hour = number_of(value[11:13])
    minute = number_of(value[14:16])
    if not is_day(year, month, day) or hour > 23 or minute > 59:
        return -1
    return day_number(year, month, day) * DAY_MINUTES + hour * 60 + minute
