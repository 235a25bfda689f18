"""Finishing: by which moves printed sheets become a book with given pages (points 32 to 34)."""

from heapq import heappop, heappush

from boundbook.errors import Refused
from boundbook.imposition import read_layers, sizes_of
from boundbook.packets import EDGES, is_inside, sheet_packet, size_of
from boundbook.plans import MOST_PANELS, panel_count, work_packet

MOST_TO_SEARCH = 6


def least_moves(rows, columns):
    """Return the least number of moves that finish a sheet of this size."""
    # The bits of n - 1 are so many as n has to be halved, and rounded up, until 1 is left.
    return (rows - 1).bit_length() + (columns - 1).bit_length()


def halving(rows, columns):
    """Return the list of the halving folds of a sheet of this size."""
    folds = []
    for edge, size in (("left", columns), ("top", rows)):
        count = size
        while count > 1:
            folds.append(("fold", edge, count // 2, "over"))
            count -= count // 2
    return folds


def carrying_layer(panel, prints, first, second):
    """Return the panel as it lies to be read as two pages, or None if it does not carry them."""
    number, row, column = panel
    front, back = prints[number]
    page, is_rotated = front[row][column]
    page_behind, is_behind_rotated = back[row][len(back[row]) - 1 - column]
    if is_rotated != is_behind_rotated:
        return None
    # Rotated marks are upright if the layer is turned; which side is up is then told by mirroring.
    if (page, page_behind) == (first, second):
        return panel + (is_rotated, is_rotated)
    if (page_behind, page) == (first, second):
        return panel + (not is_rotated, is_rotated)
    return None


def first_carrying(panels, prints, first, second):
    """Return the layer of the first of the panels that carries two pages, or None."""
    for panel in panels:
        layer = carrying_layer(panel, prints, first, second)
        if layer is not None:
            return layer
    return None


def panels_of(sizes):
    """Return the list of the panels of sheets, in the order of sheets, rows and columns."""
    panels = []
    for sheet, size in enumerate(sizes):
        panels.extend([(sheet, row, column) for row in range(size[0]) for column in range(size[1])])
    return panels


def finishing_order(prints, pages):
    """Return the list of the layers that read as the pages, or None if the prints lack some."""
    sizes = sizes_of(prints)
    if panel_count(sizes) > MOST_PANELS:
        raise Refused("too many panels")
    if len(pages) != 2 * panel_count(sizes):
        raise Refused("wrong number of pages")
    free = panels_of(sizes)
    order = []
    for place in range(0, len(pages), 2):
        layer = first_carrying(free, prints, pages[place], pages[place + 1])
        if layer is None:
            return None
        free.remove(layer[:3])
        order.append(layer)
    return order


def ordered_moves(rows, columns):
    """Return the list of all moves with lines inside of a sheet of this size, in their order."""
    lines = list(range(1, max(rows, columns)))
    return [
        (word, edge, line, way)
        for word in ("fold", "stack") for edge in EDGES for line in lines for way in ("over", "under")
    ]


def marks_of(packet, sheet):
    """Return the marks that are read in each cell of the packet of a printed sheet."""
    return tuple([tuple([tuple(read_layers(cell, [sheet])) for cell in row]) for row in packet])


def may_be_read(marks, pages):
    """Return whether the marks of a cell may be read somewhere in the pages in the end."""
    if len({is_rotated for _, is_rotated in marks}) > 1:
        return False
    found = [page for page, _ in marks]
    backwards = found[::-1]
    # The layers of a cell stay together, in their order or, when it is turned over, backwards.
    for place in range(0, len(pages) - len(found) + 1, 2):
        if pages[place:place + len(found)] in (found, backwards):
            return True
    return False


def may_lead_to(cells, pages):
    """Return whether a packet with these marks in its cells may come to read as the pages."""
    return all([may_be_read(marks, pages) for row in cells for marks in row])


def cheapest_moves(sheet, pages, fold_cost, stack_cost):
    """Return the cheapest moves with which the sheet reads as the pages, and their cost, or None."""
    rows, columns = size_of(sheet[0])
    if rows * columns > MOST_TO_SEARCH:
        raise Refused("sheet is too large")
    if len(pages) != 2 * rows * columns:
        raise Refused("wrong number of pages")
    moves = ordered_moves(rows, columns)
    costs = {"fold": fold_cost, "stack": stack_cost}
    wanted = tuple([(page, False) for page in pages])
    # The rows of moves, told by their numbers, come from the queue by cost, then by their order:
    # so the first one by which the sheet looks like this is no worse than all others that do so.
    queue = [(0, (), sheet_packet(0, rows, columns))]
    seen = set()
    while queue:
        cost, numbers, packet = heappop(queue)
        cells = marks_of(packet, sheet)
        if cells == ((wanted,),):
            return ([moves[number] for number in numbers], cost)
        if cells not in seen and may_lead_to(cells, pages):
            seen.add(cells)
            for number, move in enumerate(moves):
                if is_inside(packet, move[1], move[2]):
                    next_packet = work_packet(packet, move)[0]
                    heappush(queue, (cost + costs[move[0]], numbers + (number,), next_packet))
    return None
