"""Manuscripts: tables that are read from a text and written to it (points 20 to 22)."""

from boundbook.errors import BadManuscript, Refused
from boundbook.tables import MOST_COLUMNS, MOST_ROWS, check_table, is_column, is_row
from boundbook.words import are_words

MOST_TABLES = 12
# No number of the bounds of columns, rows and cells has more digits.
MOST_DIGITS = 3
DIGITS = "0123456789"
# The words that the lines of a table begin with, in the order in which these lines come.
KINDS = ("column", "row", "cell")


def is_number(text, most_digits):
    """Return whether a text is a number without leading zeros, of so many digits at most."""
    if not 1 <= len(text) <= most_digits or not all([character in DIGITS for character in text]):
        return False
    return text == str(int(text))


def are_numbers(texts):
    """Return whether all of the texts are numbers as manuscripts have them."""
    return all([is_number(text, MOST_DIGITS) for text in texts])


def number_or_none(text):
    """Return the number that a text stands for, None for `-`."""
    return None if text == "-" else int(text)


def read_column(parts):
    """Return the column of which a line tells these parts, or None if there is none."""
    if len(parts) != 4 or not are_numbers([parts[0]] + [part for part in parts[1:3] if part != "-"]):
        return None
    least, most, percent, align = parts
    column = (int(least), number_or_none(most), number_or_none(percent), align)
    return column if is_column(column) else None


def read_row(parts):
    """Return the row of which a line tells these parts, or None if there is none."""
    if len(parts) < 2 or not are_numbers(parts[:1]) or parts[1] not in ("head", "body"):
        return None
    if parts[2:] not in ([], ["keep"]):
        return None
    row = (int(parts[0]), parts[1] == "head", parts[2:] == ["keep"])
    return row if is_row(row) else None


def read_cell(parts):
    """Return the cell of which a line tells these parts, or None if there is none."""
    words = tuple(parts[4:])
    if len(parts) < 4 or not are_numbers(parts[:4]) or not are_words(words):
        return None
    row, column, row_span, column_span = [int(part) for part in parts[:4]]
    if row >= MOST_ROWS or column >= MOST_COLUMNS:
        return None
    if not 1 <= row_span <= MOST_ROWS or not 1 <= column_span <= MOST_COLUMNS:
        return None
    return (row, column, row_span, column_span, words)


def read_member(parts):
    """Return the column, row or cell of a line, or None if the line is none of these."""
    if parts[0] == "column":
        return read_column(parts[1:])
    if parts[0] == "row":
        return read_row(parts[1:])
    if parts[0] == "cell":
        return read_cell(parts[1:])
    return None


def add_line(members, number, parts):
    """Put the line of this number into the lists of columns, rows and cells of its table."""
    member = read_member(parts)
    if member is None:
        raise BadManuscript(number, "line is not known")
    kind = KINDS.index(parts[0])
    if any([len(later) > 0 for later in members[kind + 1:]]):
        raise BadManuscript(number, "order is wrong")
    members[kind].append(member)


def read_lines(text):
    """Return for each table its line, and the tuple of the lists of its columns, rows and cells."""
    found = []
    for number, line in enumerate(text.split("\n"), start=1):
        parts = [part for part in line.split(" ") if part]
        if parts == ["table"]:
            if len(found) == MOST_TABLES:
                raise BadManuscript(number, "too many tables")
            found.append((number, ([], [], [])))
        elif parts:
            if not found:
                raise BadManuscript(number, "table is expected")
            add_line(found[-1][1], number, parts)
    return found


def read_manuscript(text):
    """Return the tuple of the tables of a manuscript, or raise BadManuscript."""
    tables = []
    for number, members in read_lines(text):
        table = tuple([tuple(member) for member in members])
        try:
            check_table(table)
        except Refused as fault:
            raise BadManuscript(number, fault.what) from None
        tables.append(table)
    return tuple(tables)


def number_text(number):
    """Return how a number, or None, is written."""
    return "-" if number is None else str(number)


def column_line(column):
    """Return the line of a column."""
    least, most, percent, align = column
    return f"column {least} {number_text(most)} {number_text(percent)} {align}"


def row_line(row):
    """Return the line of a row."""
    least, is_head, keeps = row
    parts = ["row", str(least), "head" if is_head else "body"]
    return " ".join(parts + ["keep"] if keeps else parts)


def cell_line(cell):
    """Return the line of a cell."""
    return " ".join(["cell"] + [str(number) for number in cell[:4]] + list(cell[4]))


def write_manuscript(tables):
    """Return the written form of a manuscript."""
    lines = []
    for columns, rows, cells in tables:
        lines.append("table")
        lines.extend([column_line(column) for column in columns])
        lines.extend([row_line(row) for row in rows])
        lines.extend([cell_line(cell) for cell in cells])
    return "\n".join(lines)
