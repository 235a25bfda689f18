"""The least column lines for given heights, and the least width of a table (points 11 and 13)."""

from boundbook.constraints import least_positions
from boundbook.lines import LAST_LINE, inner_size, lines_around
from boundbook.words import narrowest


def have_room(rows, heights):
    """Return whether a layout can have rows of these inner heights."""
    if lines_around(heights)[-1] > LAST_LINE:
        return False
    return all([row[0] <= height for row, height in zip(rows, heights)])


def known_constraints(table, heights):
    """Return the constraints between the column lines that do not depend on the last one."""
    columns, _, cells = table
    row_lines = lines_around(heights)
    found = []
    for number, column in enumerate(columns):
        least, most = column[:2]
        found.append((number, number + 1, least + 1))
        if most is not None:
            found.append((number + 1, number, -most - 1))
    for row, column, row_span, column_span, words in cells:
        width = narrowest(words, inner_size(row_lines, row, row_span))
        found.append((column, column + column_span, width + 1))
    return found


def share_constraints(columns, last):
    """Return the constraints of the columns with a percent, the last line being at least `last`."""
    found = []
    for number, column in enumerate(columns):
        percent = column[2]
        if percent is not None:
            found.append((number, number + 1, (percent * last + 99) // 100))
    return found


def column_lines_for(table, heights):
    """Return the tuple of the least column lines for inner row heights, or None."""
    columns, rows, _ = table
    if not have_room(rows, heights):
        return None
    # The columns share the whole width, which is above 0, so that they cannot get more of it.
    if sum([column[2] for column in columns if column[2] is not None]) > 100:
        return None
    known = known_constraints(table, heights)
    last = 0
    # The last line of any layout is at least `last`, so its columns have at least these shares,
    # and its lines are at least these: when the last one stays, they are a layout themselves.
    while last <= LAST_LINE:
        lines = least_positions(len(columns) + 1, known + share_constraints(columns, last))
        if lines is None:
            return None
        if lines[-1] == last:
            return tuple(lines)
        last = lines[-1]
    return None


def greatest_heights(table):
    """Return for each row the inner height above which no layout becomes narrower."""
    _, rows, cells = table
    heights = []
    for number, row in enumerate(rows):
        counts = [len(cell[4]) for cell in cells if cell[0] <= number < cell[0] + cell[2]]
        heights.append(max([row[0]] + counts))
    return tuple(heights)


def minimum_width(table):
    """Return the least width of all layouts, or None if there is none."""
    lines = column_lines_for(table, greatest_heights(table))
    if lines is None:
        return None
    return lines[-1] + 1
