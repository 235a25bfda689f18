"""The press: prints that are turned, cut and joined, and how they are printed (points 35 and 36)."""

from boundbook.errors import Refused
from boundbook.packets import divide, is_inside, size_of

MOST_ROWS_AND_COLUMNS = 8
# A cut at an edge of the front is, on the back, at this one.
EDGES_BEHIND = {"left": "right", "right": "left", "top": "top", "bottom": "bottom"}


def rotated(side):
    """Return a side of a print that is rotated by half a turn."""
    return tuple([tuple([(page, not is_rotated) for page, is_rotated in row[::-1]]) for row in side[::-1]])


def turn_print(sheet, axis):
    """Return a print turned about an axis, or about both."""
    front, back = sheet
    if axis == "vertical":
        return (back, front)
    if axis == "horizontal":
        return (rotated(back), rotated(front))
    return (rotated(front), rotated(back))


def cut_print(sheet, edge, line):
    """Return the rest and the part of a print at an edge, as seen on the front."""
    front, back = sheet
    if not is_inside(front, edge, line):
        raise Refused("line outside the print")
    front_rest, front_part = divide(front, edge, line)
    back_rest, back_part = divide(back, EDGES_BEHIND[edge], line)
    return ((front_rest, back_rest), (front_part, back_part))


def beside(left, right):
    """Return two sides of prints beside each other."""
    return tuple([row + other for row, other in zip(left, right)])


def join_prints(first, second, axis):
    """Return two prints joined along an axis, the second one to the right of the first, or below."""
    along = 0 if axis == "vertical" else 1
    if size_of(first[0])[along] != size_of(second[0])[along]:
        raise Refused("prints differ in size")
    if axis == "vertical":
        joined = (beside(first[0], second[0]), beside(second[1], first[1]))
    else:
        joined = (first[0] + second[0], first[1] + second[1])
    if max(size_of(joined[0])) > MOST_ROWS_AND_COLUMNS:
        raise Refused("print is too large")
    return joined


def work_and_turn(sheet):
    """Return a print beside the same print turned about the vertical axis."""
    return join_prints(sheet, turn_print(sheet, "vertical"), "vertical")


def work_and_tumble(sheet):
    """Return a print above the same print turned about the horizontal axis."""
    return join_prints(sheet, turn_print(sheet, "horizontal"), "horizontal")


def printing_method(sheet):
    """Return by which method a print is printed."""
    front, back = sheet
    if back == front:
        return "work and turn"
    if back == rotated(front):
        return "work and tumble"
    return "sheetwise"
