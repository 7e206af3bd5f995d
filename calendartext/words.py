"""What stands in values: names told otherwise, numbers, tags."""

from calendartext.rows import BACKSLASH, COMMA, ZERO, is_digit, is_small_letter, number_of, split_row

MOST_NAME_BYTES = 40
MOST_DIGITS = 4
MOST_TAG_LETTERS = 8

# Kept both ways, so that reading need not search for what a sign means.
OTHERWISE = {10: 110, 92: 92, 44: 44, 59: 59}
MEANT = {110: 10, 92: 92, 44: 44, 59: 59}


def may_stand_in_name(byte):
    return byte == 10 or 32 <= byte <= 126 or 128 <= byte <= 255


def is_name(row):
    """A row without bytes counts: it is the name of what has none."""
    return len(row) <= MOST_NAME_BYTES and all([may_stand_in_name(byte) for byte in row])


def tell_name(name):
    told = []
    for byte in name:
        if byte in OTHERWISE:
            told.extend([BACKSLASH, OTHERWISE[byte]])
        else:
            told.append(byte)
    return told


def read_name(value):
    """Answer the bytes that are meant, or none if the value is no name, as one without bytes is none either."""
    meant = []
    place = 0
    while place < len(value):
        byte = value[place]
        if byte == BACKSLASH:
            place += 1
            if place == len(value) or value[place] not in MEANT:
                return []
            meant.append(MEANT[value[place]])
        elif byte in OTHERWISE:
            return []
        else:
            meant.append(byte)
        place += 1
    if not is_name(meant):
        return []
    return meant


def read_number(value):
    """Answer the number, or -1 if the value is none."""
    if len(value) < 1 or len(value) > MOST_DIGITS:
        return -1
    if not all([is_digit(byte) for byte in value]):
        return -1
    if len(value) > 1 and value[0] == ZERO:
        return -1
    return number_of(value)


def is_tag(row):
    return 1 <= len(row) <= MOST_TAG_LETTERS and all([is_small_letter(byte) for byte in row])


def read_tags(value):
    """Answer the tags, or none if one of them is no tag, as no value means no tags."""
    tags = split_row(value, COMMA)
    if not all([is_tag(tag) for tag in tags]):
        return []
    return tags
