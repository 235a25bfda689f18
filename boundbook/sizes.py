"""The sizes that cannot be improved, the lowest and the narrowest layouts (points 12 and 13)."""

from boundbook.columns import column_lines_for, greatest_heights
from boundbook.lines import height_of, inner_sizes, lines_around, width_of


def heights_to_try(table):
    """Return the ascending list of the tuples of inner row heights that have to be tried."""
    tuples = [()]
    for row, greatest in zip(table[1], greatest_heights(table)):
        choices = list(range(row[0], greatest + 1))
        tuples = [heights + (height,) for heights in tuples for height in choices]
    return tuples


def least_layouts(table):
    """Return for the heights that have to be tried, in order, the layouts with the least columns."""
    layouts = []
    for heights in heights_to_try(table):
        column_lines = column_lines_for(table, heights)
        if column_lines is not None:
            layouts.append((column_lines, lines_around(heights)))
    return layouts


def sizes(table):
    """Return the list of all sizes that cannot be improved, by ascending width."""
    found = []
    for width, height in sorted([(width_of(layout), height_of(layout)) for layout in least_layouts(table)]):
        # All sizes found so far are at most as wide, so that only a lower one is no worse.
        if not found or height < found[-1][1]:
            found.append((width, height))
    return found


def by_height(layout):
    """Return the key by which the lowest layout is chosen."""
    return (height_of(layout), width_of(layout), inner_sizes(layout[1]))


def by_width(layout):
    """Return the key by which the narrowest layout is chosen."""
    return (width_of(layout), height_of(layout), inner_sizes(layout[1]))


def lowest(table, max_width):
    """Return the lowest layout of all that are no wider, or None."""
    fitting = [layout for layout in least_layouts(table) if width_of(layout) <= max_width]
    return min(fitting, key=by_height, default=None)


def narrowest_layout(table, max_height):
    """Return the narrowest layout of all that are no higher, or None."""
    fitting = [layout for layout in least_layouts(table) if height_of(layout) <= max_height]
    return min(fitting, key=by_width, default=None)
