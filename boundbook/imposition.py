"""Imposition: where each page is printed so that the book reads in order (point 29)."""

from boundbook.errors import Refused
from boundbook.layers import bottom_face, top_face
from boundbook.packets import size_of
from boundbook.plans import leaf_order, sheets_of

SIDES = ("front", "back")


def faces_of(layers, sizes):
    """Return the list of the faces of layers, from the top, the upper one of each before the lower one."""
    found = []
    for layer in layers:
        columns = sizes[layer[0]][1]
        found.append(top_face(layer, columns))
        found.append(bottom_face(layer, columns))
    return found


def faces(plan):
    """Return the list of the faces in the order in which they are read."""
    return faces_of(leaf_order(plan), sheets_of(plan))


def printed_side(marks, sheet, side, size):
    """Return a side of the print of a sheet, from the marks at all places."""
    rows, columns = size
    printed = []
    for row in range(rows):
        printed.append(tuple([marks[(sheet, side, row, column)] for column in range(columns)]))
    return tuple(printed)


def impose(plan, pages):
    """Return the list of the prints with which the plan reads as pages."""
    found = faces(plan)
    if len(pages) != len(found):
        raise Refused("wrong number of pages")
    # A page appears upright if its mark is rotated just as the face is.
    marks = {face[:4]: (page, face[4]) for face, page in zip(found, pages)}
    prints = []
    for sheet, size in enumerate(sheets_of(plan)):
        prints.append(tuple([printed_side(marks, sheet, side, size) for side in SIDES]))
    return prints


def sizes_of(prints):
    """Return the list of the sizes of prints."""
    return [size_of(sheet[0]) for sheet in prints]


def mark_on(face, prints):
    """Return the mark on a face as it appears there."""
    sheet, side, row, column, is_rotated = face
    page, is_mark_rotated = prints[sheet][SIDES.index(side)][row][column]
    return (page, is_mark_rotated != is_rotated)


def read_layers(layers, prints):
    """Return the list of the marks that are read on layers, from the top."""
    return [mark_on(face, prints) for face in faces_of(layers, sizes_of(prints))]


def read_prints(plan, prints):
    """Return the list of the marks that are read when the plan finishes the prints."""
    leaves = leaf_order(plan)
    if sizes_of(prints) != sheets_of(plan):
        raise Refused("prints differ from the sheets")
    return read_layers(leaves, prints)
