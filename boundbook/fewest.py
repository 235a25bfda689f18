"""The fewest pages of a table for a width and a page height (point 16)."""

from boundbook.lines import height_of, inner_sizes, width_of
from boundbook.pages import paginate
from boundbook.sizes import least_layouts


def by_pages(division):
    """Return the key by which the fewest pages are chosen."""
    layout, pages = division
    return (len(pages), height_of(layout), width_of(layout), inner_sizes(layout[1]))


def fewest_of(table, layouts, max_width, page_height):
    """Return the one of the layouts of a table, no wider, with the fewest pages, and these, or None."""
    divisions = []
    for layout in layouts:
        if width_of(layout) <= max_width:
            pages = paginate(table, layout[1], page_height)
            if pages is not None:
                divisions.append((layout, pages))
    return min(divisions, key=by_pages, default=None)


def fewest_pages(table, max_width, page_height):
    """Return the layout, no wider, that has the fewest pages, and the list of these, or None."""
    return fewest_of(table, least_layouts(table), max_width, page_height)
