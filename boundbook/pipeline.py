"""Jobs: from a manuscript to the leaves of a copy (points 40 to 43)."""

from boundbook.bindery import finished_marks
from boundbook.drawing import draw
from boundbook.errors import Refused
from boundbook.fewest import fewest_pages
from boundbook.finishing import halving
from boundbook.imposition import faces, impose
from boundbook.makeup import cheapest_makeup, page_count
from boundbook.pages import page_layout, page_table
from boundbook.tables import check_table


def drawings_of(table, max_width, page_height):
    """Return the list of the drawings of the pages of a table."""
    fewest = fewest_pages(table, max_width, page_height)
    if fewest is None:
        raise Refused("table has no pages")
    layout, pages = fewest
    drawings = []
    for first, behind in pages:
        drawings.append(draw(page_table(table, first, behind), page_layout(table, layout, first, behind)))
    return drawings


def pages_of(tables, max_width, page_height):
    """Return the list of the pages of a manuscript."""
    found = []
    for number, table in enumerate(tables):
        check_table(table)
        drawings = drawings_of(table, max_width, page_height)
        found.extend([(number, page, drawing) for page, drawing in enumerate(drawings)])
    return found


def kinds_of_signatures(kinds, counts):
    """Return the list of the kinds of all signatures of a make-up with these counts."""
    found = []
    for kind, count in zip(kinds, counts):
        found.extend([kind] * count)
    return found


class Job:
    """A manuscript with its pages, kinds of signatures, and the cheapest make-up."""

    def __init__(self, tables, max_width, page_height, kinds):
        self.tables = tuple(tables)
        self.kinds = tuple(kinds)
        self._pages = pages_of(self.tables, max_width, page_height)
        self._makeup = cheapest_makeup(self.kinds, len(self._pages))
        self._signatures = kinds_of_signatures(self.kinds, self._makeup[0])

    def pages(self):
        """Return the list of the pages of the manuscript."""
        return list(self._pages)

    def makeup(self):
        """Return the make-up."""
        return self._makeup

    def signature_count(self):
        """Return the number of signatures."""
        return len(self._signatures)

    def numbers(self, signature):
        """Return the list of the numbers of the pages of a signature, 0 for those that are blank."""
        first = 1 + sum([page_count(kind) for kind in self._signatures[:signature]])
        behind = first + page_count(self._signatures[signature])
        return [number if number <= len(self._pages) else 0 for number in range(first, behind)]

    def plan(self, signature):
        """Return the plan that finishes a signature, a list."""
        rows, columns = self._signatures[signature][:2]
        return [("sheet", rows, columns)] + halving(rows, columns)

    def sheet(self, signature):
        """Return the print of the sheet of a signature."""
        return impose(self.plan(signature), self.numbers(signature))[0]

    def finish(self, signature):
        """Return the list of the marks that are read when the sheet of a signature is finished."""
        return finished_marks(self.sheet(signature), self.plan(signature)[1:])

    def copy(self):
        """Return the list of the leaves of a copy."""
        leaves = []
        for signature in range(self.signature_count()):
            marks = self.finish(signature)
            leaves.extend([(marks[place], marks[place + 1]) for place in range(0, len(marks), 2)])
        return leaves

    def log(self):
        """Return the log: where each page that is not blank is printed."""
        found = []
        for signature in range(self.signature_count()):
            for number, face in zip(self.numbers(signature), faces(self.plan(signature))):
                if number > 0:
                    table, page = self._pages[number - 1][:2]
                    _, side, row, column, is_rotated = face
                    found.append((number, table, page, signature, side, row, column, is_rotated))
        return found

    def is_log(self, log):
        """Return whether a list is the log of this job."""
        return log == self.log()
