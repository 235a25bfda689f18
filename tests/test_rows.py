"""Least row lines, and what a layout does not meet: points 10 and 11."""

import unittest

from boundbook.rows import row_lines_for, violations
from support import column, head, plain_table, row, table_of


class RowLinesTest(unittest.TestCase):
    def test_the_least_table(self):
        self.assertEqual(row_lines_for(plain_table(1, 1), (0, 2)), (0, 2))
        self.assertEqual(row_lines_for(table_of([column()], [row()], [[""]]), (0, 2)), (0, 2))

    def test_four_rows_and_columns(self):
        self.assertEqual(row_lines_for(plain_table(4, 4), (0, 2, 4, 6, 8)), (0, 2, 4, 6, 8))

    def test_narrower_columns_need_higher_rows(self):
        table = table_of([column()], [row()], [["the cat sat down"]])
        found = [row_lines_for(table, (0, last)) for last in (17, 16, 9, 8, 7, 5)]
        self.assertEqual(found, [(0, 2), (0, 3), (0, 3), (0, 4), (0, 5), (0, 5)])

    def test_none_if_a_word_has_no_room(self):
        table = table_of([column()], [row()], [["the cat sat down"]])
        self.assertIsNone(row_lines_for(table, (0, 4)))
        table = table_of([column()] * 2, [row()] * 2, [["a", "a"], ["a", "abc"]])
        self.assertEqual(row_lines_for(table, (0, 2, 6)), (0, 2, 4))
        self.assertIsNone(row_lines_for(table, (0, 2, 5)))

    def test_least_of_rows(self):
        table = table_of([column()], [head(3), row(1), row(6)], [["a"], ["a b"], [""]])
        self.assertEqual(row_lines_for(table, (0, 2)), (0, 4, 7, 14))

    def test_a_cell_over_several_rows_makes_the_last_one_higher(self):
        tall = (0, 0, 2, 1, ("a", "b", "c", "d"))
        table = ((column(), column()), (row(), row()), (tall, (0, 1, 1, 1, ("e",)), (1, 1, 1, 1, ("f",))))
        self.assertEqual(row_lines_for(table, (0, 2, 4)), (0, 2, 5))
        self.assertEqual(row_lines_for(table, (0, 4, 6)), (0, 2, 4))
        table = ((column(), column()), (row(), row()),
                 (tall, (0, 1, 1, 1, ("e", "f", "g")), (1, 1, 1, 1, ("f",))))
        self.assertEqual(row_lines_for(table, (0, 2, 4)), (0, 4, 6))

    def test_cells_over_several_columns_have_the_lines_between_too(self):
        table = ((column(), column()), (row(),), ((0, 0, 1, 2, ("abcde",)),))
        self.assertEqual(row_lines_for(table, (0, 2, 6)), (0, 2))
        self.assertIsNone(row_lines_for(table, (0, 2, 5)))

    def test_the_columns_need_not_be_met(self):
        table = table_of([column(10), column(1, 1, 100)], [row()], [["a b", "c"]])
        self.assertEqual(row_lines_for(table, (0, 2, 9)), (0, 3))

    def test_a_list_of_lines_stays_as_it_is(self):
        lines = [0, 2]
        self.assertEqual(row_lines_for(plain_table(2, 1), lines), (0, 2, 4))
        self.assertEqual(lines, [0, 2])


class ViolationsTest(unittest.TestCase):
    def test_a_right_layout(self):
        table = table_of([column(3, 3, 40), column()], [head(2), row()], [["a b", "c"], ["abc", ""]])
        self.assertEqual(violations(table, ((0, 4, 10), (0, 3, 5))), [])

    def test_least_alone(self):
        table = table_of([column(), column(4)], [row()], [["", ""]])
        self.assertEqual(violations(table, ((0, 2, 7), (0, 2))), [])
        self.assertEqual(violations(table, ((0, 2, 6), (0, 2))), [("least", 1)])

    def test_most_alone(self):
        table = table_of([column(), column(1, 4)], [row()], [["", ""]])
        self.assertEqual(violations(table, ((0, 2, 7), (0, 2))), [])
        self.assertEqual(violations(table, ((0, 2, 8), (0, 2))), [("most", 1)])

    def test_percent_alone(self):
        table = table_of([column(), column(percent=50)], [row()], [["", ""]])
        self.assertEqual(violations(table, ((0, 5, 10), (0, 2))), [])
        self.assertEqual(violations(table, ((0, 6, 11), (0, 2))), [("percent", 1)])
        table = table_of([column(percent=50), column()], [row()], [["", ""]])
        self.assertEqual(violations(table, ((0, 5, 11), (0, 2))), [("percent", 0)])

    def test_percent_of_a_wide_layout(self):
        table = table_of([column(), column(percent=50)], [row()], [["", ""]])
        self.assertEqual(violations(table, ((0, 100, 200), (0, 2))), [])
        self.assertEqual(violations(table, ((0, 101, 201), (0, 2))), [("percent", 1)])
        self.assertEqual(violations(table, ((0, 1000, 2000), (0, 2))), [])
        self.assertEqual(violations(table, ((0, 1001, 2000), (0, 2))), [("percent", 1)])

    def test_percent_is_of_the_last_line(self):
        table = table_of([column(percent=33)] * 3, [row()], [[""] * 3])
        self.assertEqual(violations(table, ((0, 3, 6, 9), (0, 2))), [])
        table = table_of([column(percent=34), column(percent=33), column(percent=33)], [row()], [[""] * 3])
        self.assertEqual(violations(table, ((0, 3, 6, 9), (0, 2))), [("percent", 0)])

    def test_row_alone(self):
        table = table_of([column()], [head(), row(3)], [[""], [""]])
        self.assertEqual(violations(table, ((0, 2), (0, 2, 6))), [])
        self.assertEqual(violations(table, ((0, 2), (0, 2, 5))), [("row", 1)])
        self.assertEqual(violations(table, ((0, 2), (0, 5, 8))), [("row", 1)])

    def test_cell_alone(self):
        table = table_of([column()] * 2, [row()] * 2, [["a", "b"], ["c", "ab cd"]])
        self.assertEqual(violations(table, ((0, 2, 8), (0, 2, 4))), [])
        self.assertEqual(violations(table, ((0, 2, 7), (0, 2, 4))), [("cell", 3)])
        self.assertEqual(violations(table, ((0, 2, 7), (0, 2, 5))), [])

    def test_a_word_that_is_too_long_for_its_cell(self):
        table = table_of([column()], [row()], [["abcdefgh"]])
        self.assertEqual(violations(table, ((0, 9), (0, 2))), [])
        self.assertEqual(violations(table, ((0, 8), (0, 2000))), [("cell", 0)])

    def test_cells_over_several_places(self):
        cells = ((0, 0, 2, 2, ("abcde", "abcde", "abcde")),)
        table = ((column(), column()), (row(), row()), cells)
        self.assertEqual(violations(table, ((0, 2, 6), (0, 2, 4))), [])
        self.assertEqual(violations(table, ((0, 2, 5), (0, 2, 4))), [("cell", 0)])
        cells = ((0, 0, 2, 2, ("abcde", "abcde", "abcde", "abcde")),)
        table = ((column(), column()), (row(), row()), cells)
        self.assertEqual(violations(table, ((0, 2, 6), (0, 2, 4))), [("cell", 0)])
        self.assertEqual(violations(table, ((0, 2, 6), (0, 3, 5))), [])

    def test_everything_at_once_in_order(self):
        columns = [column(5, 6, 90), column(1, 1, 90), column(5), column(1, 2)]
        texts = [["abc", "a", "abc", "a"], ["a b", "a b", "a b", "a b"]]
        table = table_of(columns, [head(3), row(6)], texts)
        self.assertEqual(violations(table, ((0, 2, 10, 12, 20), (0, 2, 4))), [
            ("cell", 0), ("cell", 2), ("cell", 4), ("cell", 6),
            ("least", 0), ("percent", 0), ("most", 1), ("percent", 1), ("least", 2), ("most", 3),
            ("row", 0), ("row", 1),
        ])

    def test_most_and_percent_of_one_column(self):
        table = table_of([column(1, 2, 60), column()], [row()], [["", ""]])
        self.assertEqual(violations(table, ((0, 4, 8), (0, 2))), [("most", 0), ("percent", 0)])

    def test_the_answer_is_a_new_list(self):
        table, layout = plain_table(1, 1), ((0, 2), (0, 2))
        violations(table, layout).append(("row", 0))
        self.assertEqual(violations(table, layout), [])


if __name__ == "__main__":
    unittest.main()
