"""Paper as it moves: packets by the places of their cells, and marks that are turned with it."""

import random

EDGES = ("left", "right", "top", "bottom")
WAYS = ("over", "under")
AXES = ("vertical", "horizontal", "both")


class Paper:
    """A packet as a dict from places to lists of leaves, from top to bottom.

    A leaf is (panel, above, below): above is the mark that is seen from above, as it appears, and
    below the one that is seen when the leaf is turned over about its vertical axis.
    """

    def __init__(self, cells):
        top = min(row for row, _ in cells)
        left = min(column for _, column in cells)
        self.cells = {(row - top, column - left): list(leaves) for (row, column), leaves in cells.items()}

    def size(self):
        return (max(row for row, _ in self.cells) + 1, max(column for _, column in self.cells) + 1)

    def folded(self, edge, line, way):
        rows, columns = self.size()
        mirrors = {
            "left": lambda r, c: (r, 2 * line - 1 - c),
            "right": lambda r, c: (r, 2 * (columns - line) - 1 - c),
            "top": lambda r, c: (2 * line - 1 - r, c),
            "bottom": lambda r, c: (2 * (rows - line) - 1 - r, c),
        }
        axis = "vertical" if edge in ("left", "right") else "horizontal"
        return self._laid(edge, line, way, mirrors[edge], lambda leaves: turned_leaves(leaves, axis))

    def stacked(self, edge, line, way):
        steps = {"left": (0, line), "right": (0, -line), "top": (line, 0), "bottom": (-line, 0)}
        down, across = steps[edge]
        return self._laid(edge, line, way, lambda r, c: (r + down, c + across), list)

    def _in_part(self, place, edge, line):
        rows, columns = self.size()
        row, column = place
        return {"left": column < line, "right": column >= columns - line,
                "top": row < line, "bottom": row >= rows - line}[edge]

    def _laid(self, edge, line, way, move, change):
        cells = {at: leaves for at, leaves in self.cells.items() if not self._in_part(at, edge, line)}
        for place, leaves in self.cells.items():
            if self._in_part(place, edge, line):
                target = move(*place)
                there = cells.get(target, [])
                cells[target] = change(leaves) + there if way == "over" else there + change(leaves)
        return Paper(cells)

    def cut(self, edge, line):
        part = {at: leaves for at, leaves in self.cells.items() if self._in_part(at, edge, line)}
        return Paper({at: leaves for at, leaves in self.cells.items() if at not in part}), Paper(part)

    def turned(self, axis):
        if axis == "both":
            return self.turned("vertical").turned("horizontal")
        sign = (1, -1) if axis == "vertical" else (-1, 1)
        return Paper({(sign[0] * r, sign[1] * c): turned_leaves(leaves, axis)
                      for (r, c), leaves in self.cells.items()})

    def piled(self, other):
        return Paper({at: leaves + other.cells[at] for at, leaves in self.cells.items()})

    def panels(self):
        """The panels of the layers, in the shape of a packet."""
        rows, columns = self.size()
        return tuple(tuple(tuple(leaf[0] for leaf in self.cells[(r, c)]) for c in range(columns))
                     for r in range(rows))

    def marks(self, row=0, column=0):
        """The marks of a cell, from the top, both sides of each layer."""
        return [mark for _, above, below in self.cells[(row, column)] for mark in (above, below)]


def turned_mark(mark):
    return (mark[0], not mark[1])


def turned_leaves(leaves, axis):
    """Leaves that are turned over: the lowest comes first, and what was below is above."""
    if axis == "vertical":
        return [(panel, below, above) for panel, above, below in reversed(leaves)]
    return [(panel, turned_mark(below), turned_mark(above)) for panel, above, below in reversed(leaves)]


def printed_paper(number, sheet):
    """A flat printed sheet, its front up: panel (r, c) has mark (r, C - 1 - c) of the back behind it."""
    front, back = sheet
    columns = len(front[0])
    return Paper({(r, c): [((number, r, c), front[r][c], back[r][columns - 1 - c])]
                  for r in range(len(front)) for c in range(columns)})


def marked_sheet(number, rows, columns):
    """A print all of whose marks are different and upright."""
    first = 1 + 200 * number
    front = tuple(tuple((first + r * columns + c, False) for c in range(columns)) for r in range(rows))
    first += rows * columns
    back = tuple(tuple((first + r * columns + c, False) for c in range(columns)) for r in range(rows))
    return (front, back)


def carried_out(plan, prints):
    """The papers that are left when the instructions are carried out on these printed sheets."""
    table = []
    placed = 0
    for word, *rest in plan:
        if word == "sheet":
            table.append(printed_paper(placed, prints[placed]))
            placed += 1
        elif word == "fold":
            table.append(table.pop().folded(*rest))
        elif word == "stack":
            table.append(table.pop().stacked(*rest))
        elif word == "turn":
            table.append(table.pop().turned(*rest))
        elif word == "cut":
            table.extend(table.pop().cut(*rest))
        elif word == "take":
            table.append(table.pop(rest[0]))
        else:
            piled = table[-rest[0]]
            for paper in table[len(table) - rest[0] + 1:]:
                piled = piled.piled(paper)
            del table[-rest[0]:]
            table.append(piled)
    return table


def finishing(rng, size, words=("fold", "stack", "turn")):
    """Random instructions that make a packet of this size a single cell."""
    rows, columns = size
    found = []
    while (rows, columns) != (1, 1):
        word = rng.choice(words)
        if word == "turn":
            found.append(("turn", rng.choice(AXES)))
            continue
        edges = [edge for edge in EDGES if (columns if edge in ("left", "right") else rows) > 1]
        edge = rng.choice(edges)
        length = columns if edge in ("left", "right") else rows
        line = rng.randint(1, min(7, length - 1))
        found.append((word, edge, line, rng.choice(WAYS)))
        if edge in ("left", "right"):
            columns = max(line, columns - line)
        else:
            rows = max(line, rows - line)
    return found


def random_plan(seed, most_sheets=3, words=("fold", "stack", "turn"), cuts=True, largest=4):
    """A random complete plan of some sheets, the same for the same seed."""
    rng = random.Random(seed)
    plan = []
    count = rng.randint(1, most_sheets)
    packets = 0
    for _ in range(count):
        rows, columns = rng.randint(1, largest), rng.randint(1, largest)
        plan.append(("sheet", rows, columns))
        parts = [(rows, columns)]
        if cuts and columns > 1 and rng.random() < 0.5:
            line = rng.randint(1, columns - 1)
            edge = rng.choice(("left", "right"))
            plan.append(("cut", edge, line))
            parts = [(rows, columns - line), (rows, line)]
        for size in reversed(parts):
            plan.extend(finishing(rng, size, words))
            packets += 1
            if len(parts) > 1:
                # The other part of the sheet lies just before this one, and behind it in the end.
                plan.append(("take", packets - 1 if size is parts[-1] else rng.randint(0, packets - 1)))
    if packets > 1:
        plan.append(("take", rng.randint(0, packets - 1)))
        plan.append(("pile", packets))
    if rng.random() < 0.5:
        plan.append(("turn", rng.choice(AXES)))
    return plan


def sheets_in(plan):
    return [(rows, columns) for word, rows, columns in (step for step in plan if step[0] == "sheet")]


def marked_sheets(plan):
    return [marked_sheet(number, *size) for number, size in enumerate(sheets_in(plan))]
