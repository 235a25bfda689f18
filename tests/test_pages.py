"""Pages, the table and the layout of a page: points 8, 15 and 17."""

import itertools
import unittest

from boundbook.pages import page_layout, page_table, paginate
from boundbook.rows import violations
from boundbook.sizes import lowest
from boundbook.tables import breakable_rows, check_table, head_count
from support import column, head, plain_table, random_table, row, table_of


def rows_alone(*rows):
    return table_of([column()], rows, [["a"]] * len(rows))


def all_divisions(table, row_lines, page_height):
    """All divisions of a table into pages that are no higher, as many rows on each as may be."""
    first, last = head_count(table), len(table[1])
    found = []
    for count in range(last - first):
        for inside in itertools.combinations(breakable_rows(table), count):
            ends = (first,) + inside + (last,)
            pages = list(zip(ends, ends[1:]))
            if all(row_lines[first] + row_lines[b] - row_lines[a] + 1 <= page_height for a, b in pages):
                found.append(pages)
    return found


class PaginateTest(unittest.TestCase):
    def test_all_on_one_page(self):
        table = plain_table(4, 1)
        self.assertEqual(paginate(table, (0, 2, 4, 6, 8), 9), [(0, 4)])
        self.assertEqual(paginate(table, (0, 2, 4, 6, 8), 2001), [(0, 4)])

    def test_a_page_height_that_is_reached_exactly_and_one_less(self):
        table, lines = plain_table(4, 1), (0, 2, 4, 6, 8)
        self.assertEqual(paginate(table, lines, 8), [(0, 3), (3, 4)])
        self.assertEqual(paginate(table, lines, 7), [(0, 3), (3, 4)])
        self.assertEqual(paginate(table, lines, 6), [(0, 2), (2, 4)])
        self.assertEqual(paginate(table, lines, 5), [(0, 2), (2, 4)])
        self.assertEqual(paginate(table, lines, 4), [(0, 1), (1, 2), (2, 3), (3, 4)])
        self.assertEqual(paginate(table, lines, 3), [(0, 1), (1, 2), (2, 3), (3, 4)])

    def test_one_row(self):
        self.assertEqual(paginate(plain_table(1, 1), (0, 2), 3), [(0, 1)])
        self.assertIsNone(paginate(plain_table(1, 1), (0, 3), 3))

    def test_head_rows_count_on_each_page(self):
        table = rows_alone(head(), row(), row(), row())
        lines = (0, 3, 5, 7, 9)
        self.assertEqual(paginate(table, lines, 10), [(1, 4)])
        self.assertEqual(paginate(table, lines, 9), [(1, 3), (3, 4)])
        self.assertEqual(paginate(table, lines, 8), [(1, 3), (3, 4)])
        self.assertEqual(paginate(table, lines, 7), [(1, 2), (2, 3), (3, 4)])
        self.assertEqual(paginate(table, lines, 6), [(1, 2), (2, 3), (3, 4)])
        self.assertIsNone(paginate(table, lines, 5))

    def test_a_table_without_body_rows(self):
        table = rows_alone(head(), head())
        self.assertEqual(paginate(table, (0, 2, 4), 5), [(2, 2)])
        self.assertEqual(paginate(table, (0, 2, 4), 100), [(2, 2)])
        self.assertIsNone(paginate(table, (0, 2, 4), 4))
        self.assertEqual(paginate(rows_alone(head()), (0, 2), 3), [(1, 1)])
        self.assertEqual(paginate(rows_alone(*[head(keeps=True)] * 4), (0, 2, 4, 6, 8), 9), [(4, 4)])

    def test_rows_of_different_heights(self):
        table, lines = plain_table(4, 1), (0, 2, 7, 9, 11)
        self.assertEqual(paginate(table, lines, 7), [(0, 1), (1, 2), (2, 4)])
        self.assertEqual(paginate(table, lines, 8), [(0, 2), (2, 4)])
        self.assertEqual(paginate(table, lines, 6), [(0, 1), (1, 2), (2, 4)])
        self.assertIsNone(paginate(table, lines, 5))

    def test_a_page_does_not_end_behind_a_row_that_keeps(self):
        table, lines = rows_alone(row(), row(keeps=True), row(), row()), (0, 2, 4, 6, 8)
        self.assertEqual(paginate(table, lines, 9), [(0, 4)])
        self.assertEqual(paginate(table, lines, 7), [(0, 3), (3, 4)])
        self.assertEqual(paginate(table, lines, 5), [(0, 1), (1, 3), (3, 4)])
        self.assertIsNone(paginate(table, lines, 4))

    def test_the_last_row_may_keep(self):
        table = rows_alone(row(), row(keeps=True))
        self.assertEqual(paginate(table, (0, 2, 4), 3), [(0, 1), (1, 2)])

    def test_a_page_does_not_end_inside_of_a_cell(self):
        cells = ((0, 0, 1, 1, ()), (1, 0, 2, 1, ()), (3, 0, 1, 1, ()))
        table, lines = ((column(),), (row(),) * 4, cells), (0, 2, 4, 6, 8)
        self.assertEqual(paginate(table, lines, 7), [(0, 3), (3, 4)])
        self.assertEqual(paginate(table, lines, 6), [(0, 1), (1, 3), (3, 4)])
        self.assertEqual(paginate(table, lines, 5), [(0, 1), (1, 3), (3, 4)])
        self.assertIsNone(paginate(table, lines, 4))
        whole = ((column(),), (row(),) * 4, ((0, 0, 4, 1, ()),))
        self.assertEqual(paginate(whole, lines, 9), [(0, 4)])
        self.assertIsNone(paginate(whole, lines, 8))

    def test_none_for_a_row_behind_that_is_too_high(self):
        self.assertIsNone(paginate(plain_table(4, 1), (0, 2, 4, 6, 12), 6))
        self.assertEqual(paginate(plain_table(4, 1), (0, 2, 4, 6, 12), 7), [(0, 3), (3, 4)])

    def test_no_division_has_fewer_pages(self):
        for seed in range(200):
            table = random_table(seed, 1, 4)
            if head_count(table) == 4:
                continue
            layout = lowest(table, 9)
            if layout is None:
                continue
            for page_height in range(3, layout[1][-1] + 2):
                divisions = all_divisions(table, layout[1], page_height)
                pages = paginate(table, layout[1], page_height)
                if pages is None:
                    self.assertEqual(divisions, [])
                else:
                    self.assertIn(pages, divisions)
                    self.assertEqual(len(pages), min(map(len, divisions)))
                    self.assertEqual(pages, max(divisions, key=lambda division: [b for _, b in division]))


class PageTableTest(unittest.TestCase):
    def setUp(self):
        self.columns = (column(2, 5, None, "right"), column(1, None, 30, "center"))
        self.rows = (head(2, True), row(1), row(3, keeps=True), row(4))
        self.cells = (
            (0, 0, 1, 2, ("top",)),
            (1, 0, 1, 1, ("a",)), (1, 1, 1, 1, ("b",)),
            (2, 0, 2, 1, ("c", "d")), (2, 1, 1, 1, ("e",)),
            (3, 1, 1, 1, ("f",)),
        )
        self.table = (self.columns, self.rows, self.cells)

    def test_the_first_page(self):
        self.assertEqual(page_table(self.table, 1, 2), (self.columns, self.rows[:2], self.cells[:3]))

    def test_a_later_page(self):
        self.assertEqual(page_table(self.table, 2, 4), (
            self.columns,
            (head(2, True), row(3, keeps=True), row(4)),
            ((0, 0, 1, 2, ("top",)), (1, 0, 2, 1, ("c", "d")), (1, 1, 1, 1, ("e",)), (2, 1, 1, 1, ("f",))),
        ))

    def test_the_only_page_is_the_table(self):
        self.assertEqual(page_table(self.table, 1, 4), self.table)
        self.assertEqual(page_table(plain_table(4, 4), 0, 4), plain_table(4, 4))

    def test_without_head_rows(self):
        table = table_of([column()], [row(1), row(2), row(3)], [["a"], ["b"], ["c"]])
        self.assertEqual(page_table(table, 1, 2), table_of([column()], [row(2)], [["b"]]))
        self.assertEqual(page_table(table, 1, 3), table_of([column()], [row(2), row(3)], [["b"], ["c"]]))

    def test_without_body_rows(self):
        table = table_of([column()], [head(1), head(2)], [["a"], ["b"]])
        self.assertEqual(page_table(table, 2, 2), table)


class PageLayoutTest(unittest.TestCase):
    def test_the_columns_and_the_heights_stay(self):
        table = table_of([column()] * 2, [head(), row(), row(), row()], [["a", "b"]] * 4)
        layout = ((0, 3, 7), (0, 3, 5, 9, 14))
        self.assertEqual(page_layout(table, layout, 1, 2), ((0, 3, 7), (0, 3, 5)))
        self.assertEqual(page_layout(table, layout, 2, 3), ((0, 3, 7), (0, 3, 7)))
        self.assertEqual(page_layout(table, layout, 2, 4), ((0, 3, 7), (0, 3, 7, 12)))
        self.assertEqual(page_layout(table, layout, 3, 4), ((0, 3, 7), (0, 3, 8)))
        self.assertEqual(page_layout(table, layout, 1, 4), layout)

    def test_without_head_rows(self):
        self.assertEqual(page_layout(plain_table(3, 1), ((0, 2), (0, 2, 5, 9)), 1, 3), ((0, 2), (0, 3, 7)))

    def test_several_head_rows(self):
        table = rows_alone(head(), head(), row(), row())
        self.assertEqual(page_layout(table, ((0, 2), (0, 2, 5, 9, 14)), 3, 4), ((0, 2), (0, 2, 5, 10)))

    def test_without_body_rows(self):
        table = rows_alone(head(), head())
        self.assertEqual(page_layout(table, ((0, 2), (0, 2, 5)), 2, 2), ((0, 2), (0, 2, 5)))

    def test_pages_are_tables_with_layouts_of_their_heights(self):
        for seed in range(150):
            table = random_table(seed, 2, 4)
            layout = lowest(table, 12)
            if layout is None:
                continue
            lines = layout[1]
            for page_height in range(3, lines[-1] + 2):
                for first, behind in paginate(table, lines, page_height) or []:
                    page, placed = page_table(table, first, behind), page_layout(table, layout, first, behind)
                    self.assertIsNone(check_table(page))
                    self.assertEqual(violations(page, placed), [])
                    height = lines[head_count(table)] + lines[behind] - lines[first] + 1
                    self.assertEqual(placed[1][-1] + 1, height)
                    self.assertLessEqual(height, page_height)


if __name__ == "__main__":
    unittest.main()
