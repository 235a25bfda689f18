"""Manuscripts and jobs that several tests use."""

import random

from boundbook.fewest import fewest_pages
from boundbook.manuscripts import read_manuscript
from boundbook.pipeline import Job
from support import column, head, random_table, row, table_of

INKS = table_of([column(3), column(1, 8, None, "right")], [head(), row(), row(), row()],
                [["Inks", "ml"], ["red", "7"], ["blue ink", "12"], ["gold", "3"]])
THREADS = table_of([column()], [row(), row()], [["thread"], ["red wax"]])
HEADS = table_of([column(), column()], [head(), head(2)], [["Paper", "cm"], ["A4", ""]])
SPANS = (
    (column(), column()),
    (row(), row(), row()),
    ((0, 0, 1, 2, ("all", "red")), (1, 0, 2, 1, ("x",)), (1, 1, 1, 1, ()), (2, 1, 1, 1, ("y", "x"))),
)
TABLES = (INKS, THREADS, HEADS)
# On pages of 13 to 6: three pages of INKS with its head, one of THREADS and one of HEADS.
KINDS = ((1, 2, 3), (2, 2, 5))
# A table that has no pages below a width of 22, and one that is faulty.
TOO_WIDE = table_of([column(20)], [row()], [["a"]])
FAULTY = (INKS[0], INKS[1], INKS[2][1:])

TEXT = """table
column 3 - - left
column 1 8 - right
row 1 head
row 1 body keep
row 1 body
row 2 body
cell 0 0 1 1 Inks
cell 0 1 1 1 ml
cell 1 0 1 2 red ink
cell 2 0 1 1 blue
cell 2 1 1 1 12
cell 3 0 1 1 gold
cell 3 1 1 1
table
column 1 - - center
row 1 body
cell 0 0 1 1 The end."""


def each_fault(table):
    """Tables with each of the faults of point 7, made of a table of two rows, and what is wrong with them."""
    columns, rows, cells = table
    return (
        (((), rows, cells), "columns are wrong"),
        ((columns, (), cells), "rows are wrong"),
        ((columns, ((1, False, False), (1, True, False)), cells), "head rows come first"),
        ((columns, rows, cells[::-1]), "cells are not in order"),
        ((columns, rows, cells + ((2, 0, 1, 1, ()),)), "cell lies outside"),
        ((columns, rows, cells[:1]), "place is not covered once"),
        ((columns, rows, cells[:1] + ((1, 0, 1, 1, ("a-b",)),)), "words are wrong"),
        ((columns, ((1, True, False), (1, False, False)), ((0, 0, 2, 1, ()),)), "cell crosses the head"),
    )


FAULTS = each_fault(THREADS)


def one_page_tables(count):
    """Tables of one cell, each with another word, and so one page each."""
    return tuple(table_of([column()], [row()], [[f"w{number}"]]) for number in range(count))


def page_job(pages, kinds):
    """A job of so many pages."""
    return Job(one_page_tables(pages), 20, 20, kinds)


def inks_job(kinds=KINDS):
    return Job(TABLES, 13, 6, kinds)


def text_job(kinds=KINDS, page_height=7):
    return Job(read_manuscript(TEXT), 20, page_height, kinds)


def random_kinds(rng):
    return tuple((rng.randint(1, 4), rng.randint(1, 4), rng.randint(1, 9)) for _ in range(rng.randint(1, 4)))


def random_tables(seed, count, max_width, page_height):
    """Random tables that have pages of this size, the same for the same seed."""
    rng = random.Random(seed)
    found = []
    while len(found) < count:
        table = random_table(rng.randrange(10 ** 6), rng.randint(1, 3), rng.randint(1, 4))
        if fewest_pages(table, max_width, page_height) is not None:
            found.append(table)
    return tuple(found)


def random_job(seed, most_tables=3, kinds=None):
    """A job of random tables, the same for the same seed."""
    rng = random.Random(seed)
    max_width, page_height = rng.randint(12, 30), rng.randint(6, 12)
    tables = random_tables(seed, rng.randint(1, most_tables), max_width, page_height)
    return Job(tables, max_width, page_height, kinds or random_kinds(rng))


def printed_marks(job):
    """Where each mark stands on the sheets of a job: (signature, side, row, column, mark)."""
    found = []
    for signature in range(job.signature_count()):
        for side, rows in zip(("front", "back"), job.sheet(signature)):
            for row_number, line in enumerate(rows):
                for column_number, mark in enumerate(line):
                    found.append((signature, side, row_number, column_number, mark))
    return found


def changed_print(sheet, side, row_number, column_number, mark):
    """A print with another mark at one place; the side is 0 for the front and 1 for the back."""
    sides = [[list(line) for line in rows] for rows in sheet]
    sides[side][row_number][column_number] = mark
    return tuple(tuple(tuple(line) for line in rows) for rows in sides)
