"""Lines of a text: put together, cut, and their names."""

from calendartext.rows import BLANK, COLON, HYPHEN, NEWLINE, is_small_letter, row_of, split_row

FIRST_PIECE = 24
NEXT_PIECE = 23
MOST_NAME = 16
LEAST_OTHER_NAME = 3


def put_together(text):
    joined = []
    place = 0
    while place < len(text):
        if text[place:place + 2] == [NEWLINE, BLANK]:
            place += 2
        else:
            joined.append(text[place])
            place += 1
    return joined


def is_ended(joined):
    """A text without bytes has no line that could lack its end."""
    return len(joined) == 0 or joined[-1] == NEWLINE


def lines_of(joined):
    """Answer the lines, with the last one also if no newline ends it."""
    lines = split_row(joined, NEWLINE)
    if len(lines[-1]) == 0:
        lines.pop()
    return lines


def cut_line(line):
    cut = line[:FIRST_PIECE]
    for start in range(FIRST_PIECE, len(line), NEXT_PIECE):
        cut.extend([NEWLINE, BLANK])
        cut.extend(line[start:start + NEXT_PIECE])
    return cut


def may_stand_in_line_name(byte):
    return is_small_letter(byte) or byte == HYPHEN


def name_size(line):
    """Answer how many bytes the line's name has, or 0 if it is no line."""
    size = 0
    while size < len(line) and may_stand_in_line_name(line[size]):
        size += 1
    if size > MOST_NAME or line[size:size + 1] != [COLON]:
        return 0
    return size


def is_other_name(name):
    if len(name) < LEAST_OTHER_NAME or len(name) > MOST_NAME:
        return False
    return name[:2] == row_of("x-") and all([may_stand_in_line_name(byte) for byte in name])
