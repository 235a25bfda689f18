"""Copies that are read: whether they are good, and the texts of the tables in them (point 45)."""

from boundbook.drawing import read_drawing
from boundbook.errors import Refused
from boundbook.tables import head_count


def wanted_marks(job):
    """Return the list of the marks of a good copy."""
    marks = []
    for signature in range(job.signature_count()):
        marks.extend([(number, False) for number in job.numbers(signature)])
    return marks


def marks_in(copy):
    """Return the list of the marks of a copy, in reading order."""
    return [mark for leaf in copy for mark in leaf]


def is_good(job, copy):
    """Return whether a copy has all pages in order, none of them rotated."""
    return marks_in(copy) == wanted_marks(job)


def box_texts(boxes):
    """Return the list of the texts of boxes."""
    return [box[4] for box in boxes]


def read_pages(table, drawings):
    """Return the list of the texts of a table that is read off the drawings of its pages."""
    body_row = head_count(table)
    # Boxes come in the order of cells, so that those of the head are the first ones.
    head_size = len([cell for cell in table[2] if cell[0] < body_row])
    first_page = read_drawing(drawings[0])
    texts = box_texts(first_page)
    for drawing in drawings[1:]:
        boxes = read_drawing(drawing)
        if boxes[:head_size] != first_page[:head_size]:
            raise Refused("heads differ")
        texts.extend(box_texts(boxes[head_size:]))
    return texts


def read_copy(job, copy):
    """Return for each table the list of the texts of its cells, as they are read off a good copy."""
    if not is_good(job, copy):
        raise Refused("copy is faulty")
    pages = job.pages()
    drawings = [[] for _ in job.tables]
    for number, _ in marks_in(copy):
        if number > 0:
            table, _, drawing = pages[number - 1]
            drawings[table].append(drawing)
    return [read_pages(table, drawn) for table, drawn in zip(job.tables, drawings)]


def texts_of(tables):
    """Return for each table the list of the texts of its cells."""
    return [[" ".join(cell[4]) for cell in cells] for _, _, cells in tables]
