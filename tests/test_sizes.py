"""Sizes that cannot be improved, the lowest and the narrowest layout: points 12 and 13."""

import unittest

from boundbook.sizes import lowest, narrowest_layout, sizes
from support import column, head, plain_table, row, table_of


def crossed(first, second):
    """A table in which each of two rows has words in a column of its own."""
    return table_of([column(), column()], [row(), row()], [[first, ""], ["", second]])


# Either column may be the wide one, for the same height.
SAME_WIDTH = crossed("aaa bb", "cccc dd")
NARROWER_SECOND = crossed("aaaa bbb", "ccc dd")
NO_LAYOUT = table_of([column(1, 3)], [row()], [["abcd"]])


class SizesTest(unittest.TestCase):
    def test_one_size(self):
        self.assertEqual(sizes(plain_table(1, 1)), [(3, 3)])
        self.assertEqual(sizes(plain_table(4, 4)), [(9, 9)])
        self.assertEqual(sizes(table_of([column(20)], [row(6)], [[""]])), [(22, 8)])

    def test_wider_and_lower(self):
        table = table_of([column()], [row()], [["the cat sat down"]])
        self.assertEqual(sizes(table), [(6, 6), (9, 5), (10, 4), (18, 3)])

    def test_two_rows_share_a_column(self):
        table = table_of([column()], [row(), row()], [["aa bb"], ["ccc ddd"]])
        self.assertEqual(sizes(table), [(5, 7), (7, 6), (9, 5)])

    def test_sizes_that_can_be_improved_are_left_out(self):
        self.assertEqual(sizes(NARROWER_SECOND), [(10, 7), (13, 6), (17, 5)])

    def test_each_size_stands_there_once(self):
        self.assertEqual(sizes(SAME_WIDTH), [(10, 7), (13, 6), (16, 5)])

    def test_no_layout(self):
        self.assertEqual(sizes(NO_LAYOUT), [])
        self.assertEqual(sizes(table_of([column(percent=60), column(percent=41)], [row()], [["", ""]])), [])

    def test_most_leaves_the_higher_ones(self):
        table = table_of([column(1, 8)], [row()], [["the cat sat down"]])
        self.assertEqual(sizes(table), [(6, 6), (9, 5), (10, 4)])

    def test_the_least_of_rows_leaves_the_lower_ones_out(self):
        table = table_of([column()], [row(3)], [["the cat sat down"]])
        self.assertEqual(sizes(table), [(6, 6), (9, 5)])
        table = table_of([column()], [row(6)], [["the cat sat down"]])
        self.assertEqual(sizes(table), [(6, 8)])

    def test_a_table_of_head_rows(self):
        self.assertEqual(sizes(table_of([column()], [head(2), head()], [["a"], ["b"]])), [(3, 6)])


class LowestTest(unittest.TestCase):
    def test_a_width_that_is_reached_exactly_and_one_less(self):
        table = table_of([column()], [row()], [["the cat sat down"]])
        found = {width: lowest(table, width) for width in (2001, 18, 17, 10, 9, 8, 6)}
        self.assertEqual(found, {
            2001: ((0, 17), (0, 2)), 18: ((0, 17), (0, 2)), 17: ((0, 9), (0, 3)), 10: ((0, 9), (0, 3)),
            9: ((0, 8), (0, 4)), 8: ((0, 5), (0, 5)), 6: ((0, 5), (0, 5)),
        })
        self.assertIsNone(lowest(table, 5))
        self.assertIsNone(lowest(table, 3))

    def test_no_layout(self):
        self.assertIsNone(lowest(NO_LAYOUT, 2001))

    def test_of_one_height_the_least_width(self):
        self.assertEqual(lowest(NARROWER_SECOND, 16), ((0, 5, 12), (0, 3, 5)))
        self.assertEqual(lowest(NARROWER_SECOND, 13), ((0, 5, 12), (0, 3, 5)))
        self.assertEqual(lowest(NARROWER_SECOND, 12), ((0, 5, 9), (0, 3, 6)))

    def test_of_one_size_the_least_heights(self):
        self.assertEqual(lowest(SAME_WIDTH, 15), ((0, 7, 12), (0, 2, 5)))
        self.assertEqual(lowest(SAME_WIDTH, 13), ((0, 7, 12), (0, 2, 5)))
        tall = ((column(),), (row(), row(), row()), ((0, 0, 3, 1, ("a", "b", "c", "d")), ))
        self.assertEqual(lowest(tall, 3), ((0, 2), (0, 2, 4, 6)))
        tall = ((column(),), (row(), row()), ((0, 0, 2, 1, ("a", "b", "c", "d")), ))
        self.assertEqual(lowest(tall, 3), ((0, 2), (0, 2, 5)))

    def test_for_these_the_least_column_lines(self):
        table = ((column(), column(), column()), (row(),), ((0, 0, 1, 3, ("abcdefgh",)),))
        self.assertEqual(lowest(table, 2001), ((0, 2, 4, 9), (0, 2)))
        table = ((column(), column(), column(1, 2)), (row(),), ((0, 0, 1, 3, ("abcdefgh",)),))
        self.assertEqual(lowest(table, 2001), ((0, 2, 6, 9), (0, 2)))

    def test_no_row_is_higher_than_it_has_to_be(self):
        table = table_of([column()], [row(2), row()], [["a"], ["b c d e"]])
        self.assertEqual(lowest(table, 3), ((0, 2), (0, 3, 8)))
        self.assertEqual(lowest(table, 5), ((0, 4), (0, 3, 6)))


class NarrowestLayoutTest(unittest.TestCase):
    def test_a_height_that_is_reached_exactly_and_one_less(self):
        table = table_of([column()], [row()], [["the cat sat down"]])
        found = {height: narrowest_layout(table, height) for height in (2001, 6, 5, 4, 3)}
        self.assertEqual(found, {
            2001: ((0, 5), (0, 5)), 6: ((0, 5), (0, 5)), 5: ((0, 8), (0, 4)), 4: ((0, 9), (0, 3)),
            3: ((0, 17), (0, 2)),
        })
        table = table_of([column()], [row(2)], [["a"]])
        self.assertEqual(narrowest_layout(table, 4), ((0, 2), (0, 3)))
        self.assertIsNone(narrowest_layout(table, 3))

    def test_no_layout(self):
        self.assertIsNone(narrowest_layout(NO_LAYOUT, 2001))

    def test_of_one_width_the_least_height(self):
        table = table_of([column()], [row(), row()], [["aa bb"], ["ccccc"]])
        self.assertEqual(narrowest_layout(table, 2001), ((0, 6), (0, 2, 4)))
        table = table_of([column()], [row(), row()], [["aa bb"], ["cccc"]])
        self.assertEqual(narrowest_layout(table, 2001), ((0, 5), (0, 3, 5)))

    def test_of_one_size_the_least_heights(self):
        tall = ((column(),), (row(), row()), ((0, 0, 2, 1, ("a", "b", "c", "d")), ))
        self.assertEqual(narrowest_layout(tall, 2001), ((0, 2), (0, 2, 5)))
        self.assertEqual(narrowest_layout(SAME_WIDTH, 6), ((0, 7, 12), (0, 2, 5)))

    def test_the_width_counts_before_the_heights(self):
        self.assertEqual(narrowest_layout(NARROWER_SECOND, 6), ((0, 5, 12), (0, 3, 5)))

    def test_for_these_the_least_column_lines(self):
        table = ((column(), column()), (row(),), ((0, 0, 1, 2, ("abcdefgh",)),))
        self.assertEqual(narrowest_layout(table, 3), ((0, 2, 9), (0, 2)))


if __name__ == "__main__":
    unittest.main()
