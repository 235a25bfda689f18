"""Layouts compared with a plain search through all small ones: points 9 to 16."""

import itertools
import unittest

from boundbook.columns import column_lines_for, minimum_width
from boundbook.fewest import fewest_pages
from boundbook.pages import paginate
from boundbook.rows import row_lines_for, violations
from boundbook.sizes import lowest, narrowest_layout, sizes
from support import all_layouts, all_lines, heights_of, is_layout, random_table, size_of

# For so many columns and rows: how many tables, and up to which last lines all layouts are tried.
# No table below needs its last row line to be greater for any of the answers.
SHAPES = {
    (1, 1): (30, 24, 6),
    (1, 2): (30, 18, 10),
    (2, 1): (30, 20, 6),
    (2, 2): (25, 16, 10),
    (3, 1): (25, 16, 6),
    (1, 3): (20, 14, 14),
    (3, 2): (12, 14, 10),
    (2, 3): (12, 13, 13),
    (4, 1): (12, 13, 6),
}


def small_cases():
    """The tables, each with all its small layouts, and the last lines up to which they go."""
    for (column_count, row_count), (many, across, down) in SHAPES.items():
        for seed in range(many):
            table = random_table(1000 * column_count + 100 * row_count + seed, column_count, row_count)
            yield table, all_layouts(table, across, down), across, down


CASES = list(small_cases())


def least_by(layouts, key):
    """The layout with the least key, of several the one with the least column lines."""
    return min(layouts, key=lambda layout: (key(layout), layout[0]), default=None)


class SearchTest(unittest.TestCase):
    def test_there_are_tables_with_and_without_layouts(self):
        with_layouts = [case for case in CASES if case[1]]
        self.assertGreater(len(with_layouts), 100)
        self.assertGreater(len(CASES) - len(with_layouts), 10)

    def test_column_lines(self):
        for table, layouts, across, down in CASES:
            for row_lines in all_lines(len(table[1]), down):
                found = [layout[0] for layout in layouts if layout[1] == row_lines]
                least = column_lines_for(table, heights_of(row_lines))
                if found:
                    self.assertEqual(least, tuple(map(min, zip(*found))), (table, row_lines))
                elif least is not None:
                    self.assertGreater(least[-1], across, (table, row_lines))
                    self.assertTrue(is_layout(table, (least, row_lines)), (table, row_lines))

    def test_row_lines(self):
        for table, layouts, _, _ in CASES:
            for column_lines in {layout[0] for layout in layouts}:
                found = [layout[1] for layout in layouts if layout[0] == column_lines]
                self.assertEqual(row_lines_for(table, column_lines), tuple(map(min, zip(*found))), table)

    def test_violations(self):
        for table, layouts, across, down in CASES:
            met = set(layouts)
            for layout in itertools.product(all_lines(len(table[0]), min(across, 9)),
                                            all_lines(len(table[1]), min(down, 8))):
                self.assertEqual(violations(table, layout) == [], layout in met, (table, layout))

    def test_sizes_and_minimum_width(self):
        for table, layouts, across, _ in CASES:
            found = {size_of(layout) for layout in layouts}
            front = sorted(a for a in found
                           if not any(b != a and b[0] <= a[0] and b[1] <= a[1] for b in found))
            self.assertEqual([size for size in sizes(table) if size[0] <= across + 1], front, table)
            if found:
                self.assertEqual(minimum_width(table), min(found)[0], table)
            elif minimum_width(table) is not None:
                self.assertGreater(minimum_width(table), across + 1, table)

    def test_lowest(self):
        for table, layouts, across, _ in CASES:
            for max_width in range(3, across + 2):
                fitting = [layout for layout in layouts if size_of(layout)[0] <= max_width]
                wanted = least_by(fitting, lambda at: (at[1][-1], at[0][-1], heights_of(at[1])))
                self.assertEqual(lowest(table, max_width), wanted, (table, max_width))

    def test_narrowest_layout(self):
        for table, layouts, across, down in CASES:
            for max_height in range(3, down + 2):
                fitting = [layout for layout in layouts if size_of(layout)[1] <= max_height]
                wanted = least_by(fitting, lambda at: (at[0][-1], at[1][-1], heights_of(at[1])))
                found = narrowest_layout(table, max_height)
                if wanted is None and found is not None:
                    self.assertGreater(found[0][-1], across, (table, max_height))
                else:
                    self.assertEqual(found, wanted, (table, max_height))

    def test_fewest_pages(self):
        for table, layouts, across, down in CASES:
            for max_width in {3, across // 2, across - 2, across + 1}:
                fitting = [layout for layout in layouts if size_of(layout)[0] <= max_width]
                for page_height in range(3, down + 2):
                    pages = {layout: paginate(table, layout[1], page_height) for layout in fitting}
                    divided = [layout for layout in fitting if pages[layout] is not None]
                    best = least_by(divided, lambda at: (len(pages[at]), at[1][-1], at[0][-1],
                                                         heights_of(at[1])))
                    wanted = None if best is None else (best, pages[best])
                    self.assertEqual(fewest_pages(table, max_width, page_height), wanted, (table, page_height))


if __name__ == "__main__":
    unittest.main()
