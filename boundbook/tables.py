"""Tables: what is wrong with them, and where their pages may begin (points 6 to 8)."""

from boundbook.errors import Refused
from boundbook.words import are_words

MOST_COLUMNS = 4
MOST_ROWS = 4
ALIGNS = ("left", "right", "center")


def is_column(column):
    """Return whether the numbers and the align of a column are in their bounds."""
    least, most, percent, align = column
    if not 1 <= least <= 20:
        return False
    if most is not None and not least <= most <= 40:
        return False
    if percent is not None and not 1 <= percent <= 100:
        return False
    return align in ALIGNS


def are_columns(columns):
    """Return whether there are as many columns as allowed, all of them right."""
    return 1 <= len(columns) <= MOST_COLUMNS and all([is_column(column) for column in columns])


def is_row(row):
    """Return whether the least height of a row is in its bounds."""
    return 1 <= row[0] <= 6


def are_rows(rows):
    """Return whether there are as many rows as allowed, all of them right."""
    return 1 <= len(rows) <= MOST_ROWS and all([is_row(row) for row in rows])


def are_heads_first(rows):
    """Return whether no head row stands behind a body row."""
    for number in range(1, len(rows)):
        if rows[number][1] and not rows[number - 1][1]:
            return False
    return True


def are_in_order(cells):
    """Return whether the cells ascend by row, then by column."""
    for number in range(1, len(cells)):
        if cells[number][:2] < cells[number - 1][:2]:
            return False
    return True


def is_inside(cell, row_count, column_count):
    """Return whether a cell covers something, and nothing outside of the table."""
    row, column, row_span, column_span = cell[:4]
    if row < 0 or column < 0 or row_span < 1 or column_span < 1:
        return False
    return row + row_span <= row_count and column + column_span <= column_count


def covers(cell, row, column):
    """Return whether a cell covers a place."""
    first_row, first_column, row_span, column_span = cell[:4]
    return 0 <= row - first_row < row_span and 0 <= column - first_column < column_span


def covers_both(cell, row):
    """Return whether a cell covers both this row and the one before it."""
    return cell[0] < row < cell[0] + cell[2]


def is_covered_once(table):
    """Return whether each place of the table is covered by exactly one cell."""
    columns, rows, cells = table
    for row in range(len(rows)):
        for column in range(len(columns)):
            if len([cell for cell in cells if covers(cell, row, column)]) != 1:
                return False
    return True


def check_table(table):
    """Raise Refused for the first thing that is wrong with the table, in the order of point 7."""
    columns, rows, cells = table
    if not are_columns(columns):
        raise Refused("columns are wrong")
    if not are_rows(rows):
        raise Refused("rows are wrong")
    if not are_heads_first(rows):
        raise Refused("head rows come first")
    if not are_in_order(cells):
        raise Refused("cells are not in order")
    if not all([is_inside(cell, len(rows), len(columns)) for cell in cells]):
        raise Refused("cell lies outside")
    if not is_covered_once(table):
        raise Refused("place is not covered once")
    first_body_row = head_count(table)
    for cell in cells:
        if not are_words(cell[4]):
            raise Refused("words are wrong")
        if covers_both(cell, first_body_row):
            raise Refused("cell crosses the head")


def head_count(table):
    """Return the number of head rows."""
    return len([row for row in table[1] if row[1]])


def cell_at(table, row, column):
    """Return the number of the cell that covers a place, or None outside of the table."""
    for number, cell in enumerate(table[2]):
        if covers(cell, row, column):
            return number
    return None


def breakable_rows(table):
    """Return the ascending list of the rows before which a page may begin."""
    rows, cells = table[1:]
    found = []
    for row in range(head_count(table) + 1, len(rows)):
        keeps = rows[row - 1][2]
        if not keeps and not any([covers_both(cell, row) for cell in cells]):
            found.append(row)
    return found
