"""Drawings of tables, and the boxes that are read from them (points 18 and 19)."""

from boundbook.errors import Refused
from boundbook.lines import height_of, width_of
from boundbook.rows import violations
from boundbook.words import wrap

BORDERS = "+-|"
# What stands for everything inside of a box when it is looked at whether lines are a drawing.
INSIDE = "#"


def blank(width, height):
    """Return rows of spaces to draw on."""
    return [[" "] * width for _ in range(height)]


def frame_of(cell, layout):
    """Return the left, upper, right and lower line of a cell."""
    column_lines, row_lines = layout
    row, column, row_span, column_span = cell[:4]
    return (column_lines[column], row_lines[row], column_lines[column + column_span], row_lines[row + row_span])


def draw_border(canvas, frame):
    """Draw the border of a frame without its corners."""
    left, top, right, bottom = frame
    for column in range(left + 1, right):
        canvas[top][column] = "-"
        canvas[bottom][column] = "-"
    for row in range(top + 1, bottom):
        canvas[row][left] = "|"
        canvas[row][right] = "|"


def draw_frames(canvas, frames):
    """Draw the borders of the frames, and then all corners, as these may be on a border of others."""
    for frame in frames:
        draw_border(canvas, frame)
    for left, top, right, bottom in frames:
        for row in (top, bottom):
            canvas[row][left] = "+"
            canvas[row][right] = "+"


def indent_of(align, free):
    """Return how much of the free space is on the left."""
    if align == "left":
        return 0
    if align == "right":
        return free
    return free // 2


def draw_words(canvas, frame, words, align):
    """Draw the lines of words inside of a frame, from the top."""
    left, top, right = frame[:3]
    width = right - left - 1
    for number, line in enumerate(wrap(words, width)):
        text = " ".join(line)
        first = left + 1 + indent_of(align, width - len(text))
        canvas[top + 1 + number][first:first + len(text)] = list(text)


def draw(table, layout):
    """Return the drawing, a tuple of texts; raise Refused if the layout does not meet the table."""
    if violations(table, layout):
        raise Refused("layout is not valid")
    columns, _, cells = table
    canvas = blank(width_of(layout), height_of(layout))
    draw_frames(canvas, [frame_of(cell, layout) for cell in cells])
    for cell in cells:
        align = columns[cell[1]][3]
        draw_words(canvas, frame_of(cell, layout), cell[4], align)
    return tuple(["".join(line) for line in canvas])


def has_only(text, allowed):
    """Return whether a text consists of the allowed characters."""
    return all([character in allowed for character in text])


def first_border(text, start):
    """Return the first place from start on with a character of borders, or None."""
    for place in range(start, len(text)):
        if text[place] in BORDERS:
            return place
    return None


def is_framed(lines, frame):
    """Return whether a box's border is drawn on the frame."""
    left, top, right, bottom = frame
    # Each corner is on two borders, and `+` is the only character that both may have.
    for row in (top, bottom):
        if not has_only(lines[row][left:right + 1], "+-"):
            return False
    for column in (left, right):
        if not has_only([line[column] for line in lines[top:bottom + 1]], "+|"):
            return False
    return True


def box_at(lines, left, top):
    """Return the box whose upper left corner is here, or None."""
    if left + 2 >= len(lines[0]) or top + 2 >= len(lines):
        return None
    # As no border is inside of a box, it ends at the first ones behind its first inner place.
    right = first_border(lines[top + 1], left + 1)
    bottom = first_border([line[left + 1] for line in lines], top + 1)
    if right is None or bottom is None or right < left + 2 or bottom < top + 2:
        return None
    inside = [line[left + 1:right] for line in lines[top + 1:bottom]]
    if not is_framed(lines, (left, top, right, bottom)):
        return None
    if any([first_border(text, 0) is not None for text in inside]):
        return None
    words = [word for text in inside for word in text.split(" ") if word]
    return (left, top, right, bottom, " ".join(words))


def boxes_in(lines):
    """Return the list of all boxes in the lines, by top, then by left."""
    found = []
    for top, line in enumerate(lines):
        for left, character in enumerate(line):
            if character == "+":
                box = box_at(lines, left, top)
                if box is not None:
                    found.append(box)
    return found


def drawn_rows(lines, boxes):
    """Return rows of what is drawn in lines of this size if exactly these boxes are."""
    canvas = blank(len(lines[0]), len(lines))
    for left, top, right, bottom, _ in boxes:
        for row in range(top + 1, bottom):
            canvas[row][left + 1:right] = [INSIDE] * (right - left - 1)
    draw_frames(canvas, [box[:4] for box in boxes])
    return canvas


def read_drawing(lines):
    """Return the list of the boxes, by top, then by left, or None if the lines are no drawing."""
    boxes = boxes_in(lines)
    # Two boxes with a common place inside would be the same box, so that no place is inside of two.
    for line, drawn in zip(lines, drawn_rows(lines, boxes)):
        if [character if character in BORDERS else INSIDE for character in line] != drawn:
            return None
    return boxes
