"""The lines of a layout, and the inner sizes between them (point 9)."""

LAST_LINE = 2000


def inner_size(lines, first, span):
    """Return the inner size of what covers so many columns, or rows, from the first on."""
    return lines[first + span] - lines[first] - 1


def inner_sizes(lines):
    """Return the tuple of the inner sizes of the columns, or rows, between the lines."""
    return tuple([inner_size(lines, number, 1) for number in range(len(lines) - 1)])


def lines_around(sizes):
    """Return the tuple of the lines between which columns, or rows, have these inner sizes."""
    lines = (0,)
    for size in sizes:
        lines = lines + (lines[-1] + size + 1,)
    return lines


def width_of(layout):
    """Return the width of a layout."""
    return layout[0][-1] + 1


def height_of(layout):
    """Return the height of a layout."""
    return layout[1][-1] + 1
