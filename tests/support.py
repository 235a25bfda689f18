"""What several tests use: short ways to write tables, and a plain search through all layouts."""

import itertools
import random

ALIGNS = ("left", "right", "center")


def column(least=1, most=None, percent=None, align="left"):
    return (least, most, percent, align)


def row(least=1, is_head=False, keeps=False):
    return (least, is_head, keeps)


def head(least=1, keeps=False):
    return (least, True, keeps)


def table_of(columns, rows, texts):
    """A table in which each cell covers one place; texts are rows of texts."""
    cells = []
    for row_number, line in enumerate(texts):
        for column_number, text in enumerate(line):
            cells.append((row_number, column_number, 1, 1, tuple(text.split())))
    return (tuple(columns), tuple(rows), tuple(cells))


def plain_table(row_count, column_count):
    return table_of([column()] * column_count, [row()] * row_count, [["a"] * column_count] * row_count)


def plain_lines(words, width):
    """The number of lines of words, from the text of point 5; None if there is no room."""
    if any(len(word) > width for word in words):
        return None
    lines = []
    for word in words:
        if lines and len(lines[-1] + " " + word) <= width:
            lines[-1] += " " + word
        else:
            lines.append(word)
    return len(lines)


def is_layout(table, layout):
    """Whether a layout meets a table, from the text of points 9 and 10."""
    columns, rows, cells = table
    across, down = layout
    for lines in layout:
        if lines[0] != 0 or lines[-1] > 2000 or any(b - a < 2 for a, b in zip(lines, lines[1:])):
            return False
    for number, (least, most, percent, _) in enumerate(columns):
        width = across[number + 1] - across[number] - 1
        if width < least or (most is not None and width > most):
            return False
        if percent is not None and 100 * (width + 1) < percent * across[-1]:
            return False
    for number, (least, _, _) in enumerate(rows):
        if down[number + 1] - down[number] - 1 < least:
            return False
    for first_row, first_column, row_span, column_span, words in cells:
        width = across[first_column + column_span] - across[first_column] - 1
        height = down[first_row + row_span] - down[first_row] - 1
        count = plain_lines(words, width)
        if count is None or count > height:
            return False
    return True


def all_lines(count, last):
    """All tuples of lines of so many columns, or rows, with a last line of at most `last`."""
    found = []
    for chosen in itertools.combinations(range(2, last + 1), count):
        lines = (0,) + chosen
        if all(b - a >= 2 for a, b in zip(lines, lines[1:])):
            found.append(lines)
    return found


def all_layouts(table, last_across, last_down):
    """All layouts of a table whose last lines are at most these."""
    columns, rows, _ = table
    return [
        (across, down)
        for across in all_lines(len(columns), last_across)
        for down in all_lines(len(rows), last_down)
        if is_layout(table, (across, down))
    ]


def heights_of(lines):
    return tuple(b - a - 1 for a, b in zip(lines, lines[1:]))


def size_of(layout):
    return (layout[0][-1] + 1, layout[1][-1] + 1)


def random_words(rng, most_words, most_characters):
    count = rng.randint(0, most_words)
    return tuple("abcdefgh"[:rng.randint(1, most_characters)] for _ in range(count))


def random_cells(rng, rows, column_count, make_words):
    """Cells of a table, some of them over several places, none over the end of the head."""
    free = {(r, c) for r in range(len(rows)) for c in range(column_count)}
    cells = []
    while free:
        first_row, first_column = min(free)
        across = down = 1
        while (first_row, first_column + across) in free and rng.random() < 0.35:
            across += 1
        while (first_row + down < len(rows) and rng.random() < 0.35
                and rows[first_row + down][1] == rows[first_row][1]
                and all((first_row + down, first_column + c) in free for c in range(across))):
            down += 1
        free -= {(first_row + r, first_column + c) for r in range(down) for c in range(across)}
        cells.append((first_row, first_column, down, across, make_words()))
    return tuple(cells)


def random_table(seed, column_count, row_count, most_words=3, most_characters=4):
    """A small table without faults, the same for the same seed."""
    rng = random.Random(seed)
    columns = []
    for _ in range(column_count):
        least = rng.choice((1, 1, 2, 3))
        most = rng.choice((None, None, least, least + 2, least + 5))
        percent = rng.choice((None, None, None, 10, 30, 50, 60))
        columns.append((least, most, percent, rng.choice(ALIGNS)))
    heads = rng.choice((0, 0, 1, row_count))
    rows = tuple((rng.choice((1, 1, 1, 2)), number < heads, rng.random() < 0.3)
                 for number in range(row_count))
    cells = random_cells(rng, rows, column_count,
                         lambda: random_words(rng, most_words, most_characters))
    return (tuple(columns), rows, cells)
