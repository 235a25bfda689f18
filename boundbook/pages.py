"""Pages of a table: how it is divided, and the table and the layout of a page (points 15, 17)."""

from boundbook.lines import inner_sizes, lines_around
from boundbook.tables import breakable_rows, head_count


def height_of_page(row_lines, head, first, behind):
    """Return the height of a page with the head rows and the body rows from first up to behind."""
    return row_lines[head] + row_lines[behind] - row_lines[first] + 1


def paginate(table, row_lines, page_height):
    """Return the list of the pages, each with as many body rows as possible, or None."""
    head = head_count(table)
    count = len(table[1])
    if head == count:
        fits = height_of_page(row_lines, head, head, head) <= page_height
        return [(head, head)] if fits else None
    ends = breakable_rows(table) + [count]
    pages = []
    first = head
    while first < count:
        fitting = [
            behind for behind in ends
            if behind > first and height_of_page(row_lines, head, first, behind) <= page_height
        ]
        if not fitting:
            return None
        pages.append((first, fitting[-1]))
        first = fitting[-1]
    return pages


def page_table(table, first, behind):
    """Return the table of a page: the head rows, the body rows of the page, and their cells."""
    columns, rows, cells = table
    head = head_count(table)
    kept = [cell for cell in cells if cell[0] < head]
    for row, column, row_span, column_span, words in cells:
        if first <= row < behind:
            kept.append((row - first + head, column, row_span, column_span, words))
    return (columns, rows[:head] + rows[first:behind], tuple(kept))


def page_layout(table, layout, first, behind):
    """Return the layout of a page, with the column lines and the row heights of the table's."""
    column_lines, row_lines = layout
    head = head_count(table)
    heights = inner_sizes(row_lines)
    return (column_lines, lines_around(heights[:head] + heights[first:behind]))
