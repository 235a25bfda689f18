"""The least row lines for given column lines, and what a layout does not meet (points 10, 11)."""

from boundbook.constraints import least_positions
from boundbook.lines import inner_size
from boundbook.words import line_count


def row_lines_for(table, column_lines):
    """Return the tuple of the least row lines, or None if a word has no room."""
    _, rows, cells = table
    constraints = [(number, number + 1, row[0] + 1) for number, row in enumerate(rows)]
    for row, column, row_span, column_span, words in cells:
        count = line_count(words, inner_size(column_lines, column, column_span))
        if count is None:
            return None
        constraints.append((row, row + row_span, count + 1))
    return tuple(least_positions(len(rows) + 1, constraints))


def is_cell_met(cell, layout):
    """Return whether the words of a cell have room in the layout."""
    column_lines, row_lines = layout
    row, column, row_span, column_span, words = cell
    count = line_count(words, inner_size(column_lines, column, column_span))
    return count is not None and count <= inner_size(row_lines, row, row_span)


def column_violations(number, column, column_lines):
    """Return the list of what the layout does not meet of a column."""
    least, most, percent = column[:3]
    width = inner_size(column_lines, number, 1)
    found = []
    if width < least:
        found.append(("least", number))
    if most is not None and width > most:
        found.append(("most", number))
    if percent is not None and 100 * (width + 1) < percent * column_lines[-1]:
        found.append(("percent", number))
    return found


def violations(table, layout):
    """Return the list of what the layout does not meet, in the order of point 10."""
    columns, rows, cells = table
    column_lines, row_lines = layout
    found = [("cell", number) for number, cell in enumerate(cells) if not is_cell_met(cell, layout)]
    for number, column in enumerate(columns):
        found.extend(column_violations(number, column, column_lines))
    for number, row in enumerate(rows):
        if inner_size(row_lines, number, 1) < row[0]:
            found.append(("row", number))
    return found
