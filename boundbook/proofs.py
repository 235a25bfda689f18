"""Proofs: prints that are written as texts, and read from them (point 50)."""

from boundbook.errors import BadManuscript
from boundbook.imposition import SIDES
from boundbook.manuscripts import is_number
from boundbook.press import MOST_ROWS_AND_COLUMNS

# No page has a number of more digits.
MOST_DIGITS = 4
ROTATED = "v"


def mark_text(mark):
    """Return how a mark is written."""
    page, is_rotated = mark
    return str(page) + ROTATED if is_rotated else str(page)


def side_lines(side):
    """Return the list of the lines of the rows of a side."""
    return [" ".join([mark_text(mark) for mark in row]) for row in side]


def write_print(sheet):
    """Return the proof of a print."""
    front, back = sheet
    return "\n".join(["front"] + side_lines(front) + ["back"] + side_lines(back))


def read_mark(part):
    """Return the mark that a part of a line stands for, or None if it is none."""
    is_rotated = part.endswith(ROTATED)
    digits = part[:-1] if is_rotated else part
    if not is_number(digits, MOST_DIGITS):
        return None
    return (int(digits), is_rotated)


def read_row(line):
    """Return the row of marks of a line, or None if the line is not known."""
    row = tuple([read_mark(part) for part in line.split(" ")])
    if None in row or len(row) > MOST_ROWS_AND_COLUMNS:
        return None
    return row


def read_rows(lines, first, rows_before):
    """Return the rows of a side from the place of a line on, those before it being of the same print."""
    rows = ()
    for place in range(first, len(lines)):
        if lines[place] in SIDES:
            return rows
        row = read_row(lines[place])
        if row is None:
            raise BadManuscript(place + 1, "line is not known")
        rows = rows + (row,)
        if len(row) != len((rows_before + rows)[0]):
            raise BadManuscript(place + 1, "row has another length")
    return rows


def check_side_line(lines, place, side):
    """Raise BadManuscript unless a side begins at this place, which may be behind the last line."""
    if lines[place:place + 1] != [side]:
        raise BadManuscript(place + 1, f"{side} is expected")


def read_print(text):
    """Return the print of a proof, or raise BadManuscript."""
    lines = text.split("\n")
    check_side_line(lines, 0, "front")
    front = read_rows(lines, 1, ())
    if not 1 <= len(front) <= MOST_ROWS_AND_COLUMNS:
        raise BadManuscript(1, "side has a wrong height")
    back_place = 1 + len(front)
    check_side_line(lines, back_place, "back")
    back = read_rows(lines, back_place + 1, front)
    if len(back) != len(front):
        raise BadManuscript(back_place + 1, "side has a wrong height")
    behind = back_place + 1 + len(back)
    if behind < len(lines):
        raise BadManuscript(behind + 1, "line is not known")
    return (front, back)
