"""The fewest pages: points 15 and 16."""

import unittest

from boundbook.fewest import fewest_pages
from boundbook.sizes import lowest
from support import column, head, plain_table, row, table_of

# At a width of 13 the first column is wide and the second row high, or all rows are alike: the
# latter is higher in all, but its rows go together on pages.
HIGH_ROW = table_of([column(), column()], [row()] * 4,
                    [["a b c d", ""], ["", "eee fff ggg hhh"], ["a b c d", ""], ["a b c d", ""]])


def crossed(first, second):
    return table_of([column(), column()], [row(), row()], [[first, ""], ["", second]])


class FewestPagesTest(unittest.TestCase):
    def test_one_page(self):
        self.assertEqual(fewest_pages(plain_table(1, 1), 3, 3), (((0, 2), (0, 2)), [(0, 1)]))
        layout = ((0, 2, 4, 6, 8), (0, 2, 4, 6, 8))
        self.assertEqual(fewest_pages(plain_table(4, 4), 9, 9), (layout, [(0, 4)]))

    def test_a_width_that_is_reached_exactly_and_one_less(self):
        table = table_of([column()], [row()], [["aa bb"]])
        self.assertEqual(fewest_pages(table, 7, 10), (((0, 6), (0, 2)), [(0, 1)]))
        self.assertEqual(fewest_pages(table, 6, 10), (((0, 3), (0, 3)), [(0, 1)]))
        self.assertEqual(fewest_pages(table, 4, 10), (((0, 3), (0, 3)), [(0, 1)]))
        self.assertIsNone(fewest_pages(table, 3, 10))

    def test_a_page_height_that_is_reached_exactly_and_one_less(self):
        table = table_of([column()], [head(2), row(), row()], [["a"]] * 3)
        layout = ((0, 2), (0, 3, 5, 7))
        self.assertEqual(fewest_pages(table, 3, 8), (layout, [(1, 3)]))
        self.assertEqual(fewest_pages(table, 3, 7), (layout, [(1, 2), (2, 3)]))
        self.assertEqual(fewest_pages(table, 3, 6), (layout, [(1, 2), (2, 3)]))
        self.assertIsNone(fewest_pages(table, 3, 5))

    def test_a_table_without_body_rows(self):
        table = table_of([column()], [head(), head()], [["aa bb"], ["c"]])
        self.assertEqual(fewest_pages(table, 6, 6), (((0, 3), (0, 3, 5)), [(2, 2)]))
        self.assertIsNone(fewest_pages(table, 6, 5))
        self.assertEqual(fewest_pages(table, 7, 5), (((0, 6), (0, 2, 4)), [(2, 2)]))
        self.assertIsNone(fewest_pages(table, 7, 4))

    def test_no_layout(self):
        self.assertIsNone(fewest_pages(table_of([column(1, 3)], [row()], [["abcd"]]), 2001, 2001))


class OrderTest(unittest.TestCase):
    def test_the_number_of_pages_counts_before_the_height(self):
        self.assertEqual(lowest(HIGH_ROW, 13), ((0, 8, 12), (0, 2, 7, 9, 11)))
        self.assertEqual(fewest_pages(HIGH_ROW, 13, 7), (((0, 4, 12), (0, 3, 6, 9, 12)), [(0, 2), (2, 4)]))

    def test_of_as_many_pages_the_least_height(self):
        self.assertEqual(fewest_pages(HIGH_ROW, 13, 8), (((0, 8, 12), (0, 2, 7, 9, 11)), [(0, 2), (2, 4)]))
        self.assertEqual(fewest_pages(HIGH_ROW, 13, 12), (((0, 8, 12), (0, 2, 7, 9, 11)), [(0, 4)]))

    def test_a_division_that_exists_only_for_a_layout_that_is_not_the_lowest(self):
        alike = ((0, 4, 12), (0, 3, 6, 9, 12))
        self.assertEqual(fewest_pages(HIGH_ROW, 13, 5), (alike, [(0, 1), (1, 2), (2, 3), (3, 4)]))
        self.assertEqual(fewest_pages(HIGH_ROW, 13, 4), (alike, [(0, 1), (1, 2), (2, 3), (3, 4)]))

    def test_no_division(self):
        self.assertIsNone(fewest_pages(HIGH_ROW, 13, 3))
        self.assertIsNone(fewest_pages(HIGH_ROW, 12, 5))
        self.assertIsNotNone(fewest_pages(HIGH_ROW, 12, 6))

    def test_of_as_many_pages_and_one_height_the_least_width(self):
        table = crossed("aaaa bbb", "ccc dd")
        self.assertEqual(fewest_pages(table, 16, 20), (((0, 5, 12), (0, 3, 5)), [(0, 2)]))
        self.assertEqual(fewest_pages(table, 16, 5), (((0, 5, 12), (0, 3, 5)), [(0, 1), (1, 2)]))

    def test_of_one_size_the_least_heights(self):
        table = crossed("aaa bb", "cccc dd")
        self.assertEqual(fewest_pages(table, 15, 20), (((0, 7, 12), (0, 2, 5)), [(0, 2)]))
        self.assertEqual(fewest_pages(table, 15, 4), (((0, 7, 12), (0, 2, 5)), [(0, 1), (1, 2)]))

    def test_with_the_least_column_lines(self):
        table = ((column(), column()), (row(),), ((0, 0, 1, 2, ("abcdefgh",)),))
        self.assertEqual(fewest_pages(table, 2001, 2001), (((0, 2, 9), (0, 2)), [(0, 1)]))


class PlacesToEndTest(unittest.TestCase):
    def test_rows_that_keep(self):
        table = table_of([column()], [row(keeps=True), row(), row(keeps=True), row()], [["a"]] * 4)
        layout = ((0, 2), (0, 2, 4, 6, 8))
        self.assertEqual(fewest_pages(table, 3, 7), (layout, [(0, 2), (2, 4)]))
        self.assertEqual(fewest_pages(table, 3, 5), (layout, [(0, 2), (2, 4)]))
        self.assertIsNone(fewest_pages(table, 3, 4))

    def test_cells_over_rows(self):
        cells = ((0, 0, 1, 1, ("a",)), (1, 0, 2, 1, ("b",)))
        table = ((column(),), (row(),) * 3, cells)
        layout = ((0, 2), (0, 2, 4, 6))
        self.assertEqual(fewest_pages(table, 3, 7), (layout, [(0, 3)]))
        self.assertEqual(fewest_pages(table, 3, 6), (layout, [(0, 1), (1, 3)]))
        self.assertIsNone(fewest_pages(table, 3, 4))

    def test_the_pages_are_a_new_list(self):
        fewest_pages(plain_table(1, 1), 3, 3)[1].append((1, 2))
        self.assertEqual(fewest_pages(plain_table(1, 1), 3, 3)[1], [(0, 1)])


if __name__ == "__main__":
    unittest.main()
