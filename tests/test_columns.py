"""Least column lines and least width: points 9, 10, 11 and 13."""

import unittest

from boundbook.columns import column_lines_for, minimum_width
from support import column, head, is_layout, plain_table, row, table_of


def one_row(columns, *texts):
    return table_of(columns, [row()], [texts])


class ColumnLinesTest(unittest.TestCase):
    def test_the_least_table(self):
        self.assertEqual(column_lines_for(one_row([column()], ""), (1,)), (0, 2))
        self.assertEqual(column_lines_for(one_row([column()], "a"), (1,)), (0, 2))

    def test_four_columns_and_four_rows(self):
        self.assertEqual(column_lines_for(plain_table(4, 4), (1, 1, 1, 1)), (0, 2, 4, 6, 8))
        texts = [["a", "bb", "c", "d"], ["aa", "b", "c", "d"], ["a", "b", "cccc", "d"], ["a", "b", "c", "ddd"]]
        table = table_of([column()] * 4, [row()] * 4, texts)
        self.assertEqual(column_lines_for(table, (1, 1, 1, 1)), (0, 3, 6, 11, 15))

    def test_higher_rows_need_narrower_columns(self):
        table = one_row([column(), column()], "the cat sat down", "ab cd")
        self.assertEqual(column_lines_for(table, (1,)), (0, 17, 23))
        self.assertEqual(column_lines_for(table, (2,)), (0, 9, 12))
        self.assertEqual(column_lines_for(table, (3,)), (0, 8, 11))
        self.assertEqual(column_lines_for(table, (4,)), (0, 5, 8))
        self.assertEqual(column_lines_for(table, (100,)), (0, 5, 8))

    def test_a_word_is_never_broken(self):
        table = one_row([column()], "abcdefgh a")
        self.assertEqual(column_lines_for(table, (6,)), (0, 9))

    def test_cells_over_several_columns(self):
        columns, rows = (column(),) * 3, (row(), row())
        short = ((1, 0, 1, 1, ()), (1, 1, 1, 1, ()), (1, 2, 1, 1, ()))
        table = (columns, rows, ((0, 0, 1, 3, ("abcdefgh",)),) + short)
        self.assertEqual(column_lines_for(table, (1, 1)), (0, 2, 4, 9))
        table = (columns, rows, ((0, 0, 1, 2, ("abcdefgh",)), (0, 2, 1, 1, ())) + short)
        self.assertEqual(column_lines_for(table, (1, 1)), (0, 2, 9, 11))
        table = (columns, rows, ((0, 0, 1, 1, ()), (0, 1, 1, 2, ("abcdefgh",))) + short)
        self.assertEqual(column_lines_for(table, (1, 1)), (0, 2, 4, 11))

    def test_a_cell_over_columns_that_are_wide_enough(self):
        table = ((column(3), column(4)), (row(),), ((0, 0, 1, 2, ("abcdefgh",)),))
        self.assertEqual(column_lines_for(table, (1,)), (0, 4, 9))
        table = ((column(3), column(3)), (row(),), ((0, 0, 1, 2, ("abcdefgh",)),))
        self.assertEqual(column_lines_for(table, (1,)), (0, 4, 9))

    def test_cells_over_several_rows_have_the_lines_between_too(self):
        table = ((column(),), (row(), row()), ((0, 0, 2, 1, ("aa", "bb", "cc")),))
        self.assertEqual(column_lines_for(table, (1, 1)), (0, 3))
        table = ((column(),), (row(), row()), ((0, 0, 2, 1, ("aa", "bb", "cc", "dd")),))
        self.assertEqual(column_lines_for(table, (1, 1)), (0, 6))
        self.assertEqual(column_lines_for(table, (1, 2)), (0, 3))

    def test_heights_below_the_least_of_a_row(self):
        table = table_of([column()], [row(2), row(1)], [["a"], ["b"]])
        self.assertIsNone(column_lines_for(table, (1, 1)))
        self.assertIsNone(column_lines_for(table, (1, 2)))
        self.assertEqual(column_lines_for(table, (2, 1)), (0, 2))
        table = table_of([column()], [head(1), row(6)], [["a"], ["b"]])
        self.assertIsNone(column_lines_for(table, (6, 5)))
        self.assertEqual(column_lines_for(table, (1, 6)), (0, 2))

    def test_row_lines_up_to_2000_and_beyond(self):
        self.assertEqual(column_lines_for(plain_table(1, 1), (1999,)), (0, 2))
        self.assertIsNone(column_lines_for(plain_table(1, 1), (2000,)))
        self.assertEqual(column_lines_for(plain_table(2, 1), (999, 999)), (0, 2))
        self.assertIsNone(column_lines_for(plain_table(2, 1), (999, 1000)))

    def test_the_heights_may_be_a_list_and_stay_as_they_are(self):
        heights = [1, 2]
        self.assertEqual(column_lines_for(plain_table(2, 1), heights), (0, 2))
        self.assertEqual(heights, [1, 2])


class BoundsOfColumnsTest(unittest.TestCase):
    def test_least(self):
        self.assertEqual(column_lines_for(one_row([column(5)], "abc"), (1,)), (0, 6))
        self.assertEqual(column_lines_for(one_row([column(5)], "abcdef"), (1,)), (0, 7))
        self.assertEqual(column_lines_for(one_row([column(20), column(2)], "", ""), (1,)), (0, 21, 24))

    def test_most_is_reached_exactly_and_one_less(self):
        self.assertEqual(column_lines_for(one_row([column(1, 4)], "abcd"), (1,)), (0, 5))
        self.assertIsNone(column_lines_for(one_row([column(1, 3)], "abcd"), (1,)))
        self.assertEqual(column_lines_for(one_row([column(1, 5)], "ab cd"), (1,)), (0, 6))
        self.assertIsNone(column_lines_for(one_row([column(1, 4)], "ab cd"), (1,)))
        self.assertEqual(column_lines_for(one_row([column(1, 4)], "ab cd"), (2,)), (0, 3))

    def test_least_and_most_alike(self):
        self.assertEqual(column_lines_for(one_row([column(3, 3)], "a"), (1,)), (0, 4))

    def test_most_moves_the_line_before(self):
        wide = ((0, 0, 1, 2, ("abcdefgh",)),)
        self.assertEqual(column_lines_for(((column(), column(1, 2)), (row(),), wide), (1,)), (0, 6, 9))
        self.assertEqual(column_lines_for(((column(1, 2), column()), (row(),), wide), (1,)), (0, 2, 9))
        self.assertEqual(column_lines_for(((column(1, 3), column(1, 4)), (row(),), wide), (1,)), (0, 4, 9))
        self.assertIsNone(column_lines_for(((column(1, 3), column(1, 3)), (row(),), wide), (1,)))

    def test_most_of_columns_that_position_0_has_no_part_in(self):
        cells = ((0, 0, 1, 1, ()), (0, 1, 1, 2, ("abcdefgh",)))
        self.assertIsNone(column_lines_for(((column(), column(1, 3), column(1, 3)), (row(),), cells), (1,)))
        table = ((column(), column(1, 3), column(1, 4)), (row(),), cells)
        self.assertEqual(column_lines_for(table, (1,)), (0, 2, 6, 11))

    def test_a_most_that_moves_several_lines(self):
        columns = (column(), column(1, 1), column(1, 1))
        table = (columns, (row(), row()), ((0, 0, 1, 3, ("abcdefgh",)), (1, 0, 1, 1, ()), (1, 1, 1, 1, ()),
                                           (1, 2, 1, 1, ())))
        self.assertEqual(column_lines_for(table, (1, 1)), (0, 5, 7, 9))


class PercentTest(unittest.TestCase):
    def test_the_only_column_may_have_100(self):
        self.assertEqual(column_lines_for(one_row([column(percent=100)], "abc"), (1,)), (0, 4))

    def test_a_percent_that_binds(self):
        table = one_row([column(), column(percent=50)], "abcdefgh", "")
        self.assertEqual(column_lines_for(table, (1,)), (0, 9, 18))
        table = one_row([column(percent=50), column()], "", "abcdefgh")
        self.assertEqual(column_lines_for(table, (1,)), (0, 9, 18))
        table = one_row([column(percent=75), column()], "", "abc")
        self.assertEqual(column_lines_for(table, (1,)), (0, 12, 16))

    def test_a_percent_that_does_not_bind(self):
        table = one_row([column(percent=10), column()], "abcdefgh", "a")
        self.assertEqual(column_lines_for(table, (1,)), (0, 9, 11))

    def test_shares_are_rounded_up(self):
        table = one_row([column(percent=33), column()], "", "abcdef")
        self.assertEqual(column_lines_for(table, (1,)), (0, 4, 11))
        table = one_row([column(percent=34), column()], "", "abcdef")
        self.assertEqual(column_lines_for(table, (1,)), (0, 4, 11))
        table = one_row([column(percent=37), column()], "", "abcdef")
        self.assertEqual(column_lines_for(table, (1,)), (0, 5, 12))

    def test_percents_of_100_together(self):
        table = one_row([column(percent=60), column(percent=40)], "", "")
        self.assertEqual(column_lines_for(table, (1,)), (0, 3, 5))
        table = one_row([column(percent=50), column(percent=50)], "abc", "a")
        self.assertEqual(column_lines_for(table, (1,)), (0, 4, 8))
        table = one_row([column(percent=99), column(percent=1)], "", "")
        self.assertEqual(column_lines_for(table, (1,)), (0, 198, 200))
        table = one_row([column(percent=25)] * 4, "", "", "", "ab")
        self.assertEqual(column_lines_for(table, (1,)), (0, 3, 6, 9, 12))

    def test_percents_that_exceed_100_together(self):
        for percents in ((60, 41), (100, 1), (100, 100), (51, 50)):
            table = one_row([column(percent=percent) for percent in percents], "", "")
            self.assertIsNone(column_lines_for(table, (1,)))
            self.assertIsNone(minimum_width(table))
        table = one_row([column(percent=26)] * 3 + [column(percent=23)], "", "", "", "")
        self.assertIsNone(column_lines_for(table, (1,)))

    def test_100_leaves_no_room_beside_it(self):
        self.assertIsNone(column_lines_for(one_row([column(percent=100), column()], "", ""), (1,)))

    def test_most_and_percent_that_cannot_be_met_together(self):
        self.assertEqual(column_lines_for(one_row([column(1, 5, 50), column(5)], "", ""), (1,)), (0, 6, 12))
        self.assertIsNone(column_lines_for(one_row([column(1, 5, 50), column(6)], "", ""), (1,)))
        self.assertIsNone(column_lines_for(one_row([column(), column(1, 1, 90)], "", ""), (1,)))

    def test_percents_over_cells_of_several_columns(self):
        cells = ((0, 0, 1, 2, ("abcdefgh",)),)
        table = ((column(), column(percent=50)), (row(),), cells)
        self.assertEqual(column_lines_for(table, (1,)), (0, 2, 9))
        table = ((column(percent=50), column()), (row(),), cells)
        self.assertEqual(column_lines_for(table, (1,)), (0, 5, 9))
        table = ((column(percent=30), column(1, 3)), (row(),), cells)
        self.assertEqual(column_lines_for(table, (1,)), (0, 5, 9))

    def test_column_lines_up_to_2000_and_beyond(self):
        table = one_row([column(19), column(percent=99)], "", "")
        self.assertEqual(column_lines_for(table, (1,)), (0, 20, 2000))
        self.assertEqual(minimum_width(table), 2001)
        table = one_row([column(20), column(percent=99)], "", "")
        self.assertIsNone(column_lines_for(table, (1,)))
        self.assertIsNone(minimum_width(table))
        table = one_row([column(19, None, 1), column(percent=99)], "", "")
        self.assertEqual(column_lines_for(table, (1,)), (0, 20, 2000))
        table = one_row([column(20, None, 1), column(percent=99)], "", "")
        self.assertIsNone(column_lines_for(table, (1,)))

    def test_far_layouts_are_layouts_and_the_line_before_is_none(self):
        for percents in ((97, 1, 1, 1), (33, 33, 33, None), (50, 49, None, None), (24, 24, 24, 24)):
            table = one_row([column(percent=percent) for percent in percents], "ab cd", "abc", "a", "")
            lines = column_lines_for(table, (2,))
            self.assertTrue(is_layout(table, (lines, (0, 3))), percents)
            for number in range(1, 5):
                lower = lines[:number] + (lines[number] - 1,) + lines[number + 1:]
                self.assertFalse(is_layout(table, (lower, (0, 3))), (percents, number))


class MinimumWidthTest(unittest.TestCase):
    def test_all_words_below_one_another(self):
        self.assertEqual(minimum_width(one_row([column()], "the cat sat down")), 6)
        self.assertEqual(minimum_width(one_row([column(), column()], "abcdefgh a b c", "a bb ccc")), 14)

    def test_least_tables(self):
        self.assertEqual(minimum_width(plain_table(1, 1)), 3)
        self.assertEqual(minimum_width(plain_table(4, 4)), 9)
        self.assertEqual(minimum_width(one_row([column(20)], "")), 22)

    def test_none_if_a_word_is_longer_than_its_cell_can_be(self):
        self.assertEqual(minimum_width(one_row([column(1, 4)], "abcd abcd")), 6)
        self.assertIsNone(minimum_width(one_row([column(1, 4)], "abcde")))
        cells = ((0, 0, 1, 2, ("abcdefgh",)),)
        self.assertEqual(minimum_width(((column(3, 3), column(4, 4)), (row(),), cells)), 10)
        self.assertIsNone(minimum_width(((column(3, 3), column(3, 3)), (row(),), cells)))

    def test_a_cell_over_several_rows(self):
        table = ((column(),), (row(), row()), ((0, 0, 2, 1, ("aaa", "bbb", "ccc", "dddd")),))
        self.assertEqual(minimum_width(table), 6)


if __name__ == "__main__":
    unittest.main()
