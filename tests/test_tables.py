"""Tables: points 6, 7 and 8."""

import unittest

from boundbook.errors import Refused
from boundbook.tables import breakable_rows, cell_at, check_table, head_count
from support import column, head, plain_table, random_table, row, table_of

FAULTS = (
    "columns are wrong",
    "rows are wrong",
    "head rows come first",
    "cells are not in order",
    "cell lies outside",
    "place is not covered once",
    "words are wrong",
    "cell crosses the head",
)


def told(table):
    """What check_table refuses, or None."""
    try:
        answer = check_table(table)
    except Refused as error:
        return error.what
    assert answer is None
    return None


def with_columns(*columns):
    return table_of(columns, [row()], [["a"] * len(columns)])


def with_rows(*rows):
    return table_of([column()], rows, [["a"]] * len(rows))


def with_cells(row_count, column_count, *cells):
    return ((column(),) * column_count, (row(),) * row_count, cells)


def with_words(*words):
    return with_cells(1, 1, (0, 0, 1, 1, words))


def faulty(*faults):
    """A table of one head row and three body rows that has these faults, and no other."""
    columns = [column(), column()]
    rows = [head(), row(), row(), row()]
    cells = {(r, c): [r, c, 1, 1, ("a",)] for r in range(4) for c in range(2)}
    if "cell crosses the head" in faults:
        cells[0, 1][2] = 2
        del cells[1, 1]
    if "words are wrong" in faults:
        cells[1, 0][4] = ("a b",)
    if "place is not covered once" in faults:
        del cells[2, 0]
    if "cell lies outside" in faults:
        cells[3, 1][3] = 2
    cells = [tuple(cell) for cell in cells.values()]
    if "cells are not in order" in faults:
        cells[-1], cells[-2] = cells[-2], cells[-1]
    if "head rows come first" in faults:
        rows[2] = head()
    if "rows are wrong" in faults:
        rows[3] = row(7)
    if "columns are wrong" in faults:
        columns[1] = column(0)
    return (tuple(columns), tuple(rows), tuple(cells))


class RightTablesTest(unittest.TestCase):
    def test_least_and_greatest_tables(self):
        for row_count in (1, 2, 3, 4):
            for column_count in (1, 2, 3, 4):
                self.assertIsNone(told(plain_table(row_count, column_count)))

    def test_a_table_of_head_rows_alone(self):
        self.assertIsNone(told(with_rows(head(), head(), head(), head())))
        self.assertIsNone(told(with_cells(2, 2, (0, 0, 2, 2, ()))))
        self.assertIsNone(told(((column(),), (head(), head()), ((0, 0, 2, 1, ("a",)),))))

    def test_spans_that_reach_the_end_of_the_table(self):
        self.assertIsNone(told(with_cells(4, 4, (0, 0, 4, 4, ("a",)))))
        self.assertIsNone(told(with_cells(2, 2, (0, 0, 1, 2, ()), (1, 0, 1, 1, ()), (1, 1, 1, 1, ()))))
        self.assertIsNone(told(with_cells(2, 2, (0, 0, 2, 1, ()), (0, 1, 2, 1, ()))))

    def test_random_tables_are_right(self):
        for seed in range(200):
            self.assertIsNone(told(random_table(seed, 1 + seed % 4, 1 + seed // 4 % 4)))


class ColumnsTest(unittest.TestCase):
    def assert_columns(self, is_right, *columns):
        self.assertEqual(told(with_columns(*columns)), None if is_right else "columns are wrong")

    def test_their_number(self):
        self.assert_columns(False)
        self.assert_columns(True, column())
        self.assert_columns(True, *[column()] * 4)
        self.assert_columns(False, *[column()] * 5)

    def test_least(self):
        for least, is_right in ((-1, False), (0, False), (1, True), (20, True), (21, False)):
            self.assert_columns(is_right, column(least))

    def test_most(self):
        self.assert_columns(True, column(5, None))
        for most, is_right in ((0, False), (4, False), (5, True), (40, True), (41, False)):
            self.assert_columns(is_right, column(5, most))

    def test_percent(self):
        self.assert_columns(True, column(1, None, None))
        for percent, is_right in ((-1, False), (0, False), (1, True), (100, True), (101, False)):
            self.assert_columns(is_right, column(1, None, percent))

    def test_align(self):
        for align in ("left", "right", "center"):
            self.assert_columns(True, column(align=align))
        for align in ("", "Left", "middle", "lef", "t", "leftright"):
            self.assert_columns(False, column(align=align))

    def test_each_column_is_looked_at(self):
        for number in range(4):
            columns = [column()] * 4
            columns[number] = column(0)
            self.assert_columns(False, *columns)

    def test_percents_may_exceed_100_together(self):
        self.assert_columns(True, column(percent=100), column(percent=100))


class RowsTest(unittest.TestCase):
    def test_their_number(self):
        self.assertEqual(told(((column(),), (), ())), "rows are wrong")
        self.assertIsNone(told(with_rows(row())))
        self.assertIsNone(told(with_rows(*[row()] * 4)))
        self.assertEqual(told(with_rows(*[row()] * 5)), "rows are wrong")

    def test_least(self):
        for least, is_right in ((-1, False), (0, False), (1, True), (6, True), (7, False)):
            for is_head in (False, True):
                table = with_rows(row(least, is_head))
                self.assertEqual(told(table), None if is_right else "rows are wrong")

    def test_each_row_is_looked_at(self):
        for number in range(4):
            rows = [row()] * 4
            rows[number] = row(7)
            self.assertEqual(told(with_rows(*rows)), "rows are wrong")

    def test_every_row_may_keep(self):
        self.assertIsNone(told(with_rows(head(keeps=True), row(keeps=True), row(keeps=True))))

    def test_head_rows_come_first(self):
        self.assertIsNone(told(with_rows(head(), head(), row(), row())))
        self.assertEqual(told(with_rows(row(), head())), "head rows come first")
        self.assertEqual(told(with_rows(head(), row(), row(), head())), "head rows come first")
        self.assertEqual(told(with_rows(head(), row(), head(), row())), "head rows come first")


class CellsTest(unittest.TestCase):
    def test_order_by_row_then_by_column(self):
        a, b, c, d = [(r, c, 1, 1, ()) for r in (0, 1) for c in (0, 1)]
        self.assertIsNone(told(with_cells(2, 2, a, b, c, d)))
        for cells in ((b, a, c, d), (a, c, b, d), (a, b, d, c), (d, a, b, c)):
            self.assertEqual(told(with_cells(2, 2, *cells)), "cells are not in order")

    def test_equal_places_are_no_fault_of_order(self):
        a, b = (0, 0, 1, 1, ()), (0, 1, 1, 1, ())
        self.assertEqual(told(with_cells(1, 2, a, a, b)), "place is not covered once")
        self.assertEqual(told(with_cells(1, 2, a, (0, 0, 2, 1, ()), b)), "cell lies outside")
        self.assertEqual(told(with_cells(1, 2, (0, 0, 1, 2, ()), a)), "place is not covered once")

    def test_the_order_looks_at_the_place_alone(self):
        cells = [(0, 0, 1, 1, ("b",)), (0, 0, 1, 1, ("a",))]
        self.assertEqual(told(with_cells(1, 1, *cells)), "place is not covered once")
        cells = [(0, 0, 1, 2, ()), (0, 0, 1, 1, ())]
        self.assertEqual(told(with_cells(1, 2, *cells)), "place is not covered once")
        cells = [(0, 0, 2, 1, ()), (0, 0, 1, 1, ())]
        self.assertEqual(told(with_cells(2, 1, *cells)), "place is not covered once")

    def test_spans_below_1(self):
        for spans in ((0, 1), (1, 0), (-1, 1), (1, -1), (0, 0)):
            table = with_cells(1, 1, (0, 0) + spans + ((),))
            self.assertEqual(told(table), "cell lies outside")

    def test_cells_beyond_each_side(self):
        for place in ((-1, 0, 1, 1), (0, -1, 1, 1), (-1, 0, 3, 2), (0, -1, 2, 3)):
            self.assertEqual(told(with_cells(2, 2, place + ((),))), "cell lies outside")
        for place in ((0, 0, 3, 1), (0, 0, 1, 3), (1, 0, 2, 1), (0, 1, 1, 2), (2, 0, 1, 1), (0, 2, 1, 1)):
            self.assertEqual(told(with_cells(2, 2, place + ((),))), "cell lies outside")

    def test_places_covered_by_no_cell(self):
        a, b, c, d = [(r, c, 1, 1, ()) for r in (0, 1) for c in (0, 1)]
        for cells in ((), (a,), (b, c, d), (a, c, d), (a, b, d), (a, b, c)):
            self.assertEqual(told(with_cells(2, 2, *cells)), "place is not covered once")

    def test_places_covered_by_two_cells(self):
        wide, tall = (0, 0, 1, 2, ()), (0, 1, 2, 1, ())
        self.assertEqual(told(with_cells(2, 2, wide, tall, (1, 0, 1, 1, ()))), "place is not covered once")
        self.assertEqual(told(with_cells(1, 1, (0, 0, 1, 1, ()), (0, 0, 1, 1, ()))),
                         "place is not covered once")

    def test_one_place_twice_and_another_one_not_at_all(self):
        a, b = (0, 0, 1, 1, ()), (0, 1, 1, 1, ())
        self.assertEqual(told(with_cells(1, 3, a, b, b)), "place is not covered once")


class WordsOfCellsTest(unittest.TestCase):
    def test_right_words(self):
        for words in ((), ("a", "b", "c", "d"), ("abcdefgh",), ("It's", "(a/b)", "0.9,", ":;!?")):
            self.assertIsNone(told(with_words(*words)))

    def test_wrong_words(self):
        for words in (("a",) * 5, ("abcdefghi",), ("",), ("a b",), ("a-b",), ("a+b",), ("a|b",),
                      ("a\n",), ("\xe9",), ('"',), ("a_b",), ("a", "b", "c", "abcdefghi")):
            self.assertEqual(told(with_words(*words)), "words are wrong")

    def test_a_cell_that_crosses_the_head(self):
        rows = (head(), head(), row(), row())
        for first in range(4):
            for span in range(1, 5 - first):
                cells = [(first, 0, span, 1, ())]
                cells += [(r, 0, 1, 1, ()) for r in range(4) if not first <= r < first + span]
                crosses = first <= 1 and first + span > 2
                table = ((column(),), rows, tuple(sorted(cells)))
                self.assertEqual(told(table), "cell crosses the head" if crosses else None)

    def test_the_first_cell_with_one_of_the_last_two_faults_is_told(self):
        columns, rows = (column(), column()), (head(), row())
        wrong, right = ("a b",), ("a",)
        crossing = (0, 0, 2, 1, right)
        table = (columns, rows, (crossing, (0, 1, 1, 1, wrong), (1, 1, 1, 1, right)))
        self.assertEqual(told(table), "cell crosses the head")
        table = (columns, rows, ((0, 0, 1, 1, wrong), (0, 1, 2, 1, right), (1, 0, 1, 1, right)))
        self.assertEqual(told(table), "words are wrong")
        table = (columns, rows, ((0, 0, 2, 1, wrong), (0, 1, 2, 1, right)))
        self.assertEqual(told(table), "words are wrong")
        table = (columns, rows, ((0, 0, 1, 1, right), (0, 1, 2, 1, right), (1, 0, 1, 1, wrong)))
        self.assertEqual(told(table), "cell crosses the head")


class OrderOfFaultsTest(unittest.TestCase):
    def test_no_fault(self):
        self.assertIsNone(told(faulty()))

    def test_each_fault_by_itself(self):
        for fault in FAULTS:
            self.assertEqual(told(faulty(fault)), fault)

    def test_two_faults_at_once(self):
        for earlier in range(6):
            for later in range(earlier + 1, 8):
                table = faulty(FAULTS[earlier], FAULTS[later])
                self.assertEqual(told(table), FAULTS[earlier], FAULTS[later])

    def test_all_faults_at_once(self):
        for number in range(6):
            self.assertEqual(told(faulty(*FAULTS[number:])), FAULTS[number])


class PlacesTest(unittest.TestCase):
    def test_head_count(self):
        for heads in range(5):
            table = with_rows(*[head()] * heads + [row()] * (4 - heads))
            self.assertEqual(head_count(table), heads)

    def test_cell_at(self):
        table = with_cells(3, 3, (0, 0, 2, 2, ()), (0, 2, 1, 1, ()), (1, 2, 2, 1, ()), (2, 0, 1, 2, ()))
        self.assertIsNone(told(table))
        found = [[cell_at(table, r, c) for c in range(3)] for r in range(3)]
        self.assertEqual(found, [[0, 0, 1], [0, 0, 2], [3, 3, 2]])

    def test_cell_at_in_the_least_and_the_greatest_table(self):
        self.assertEqual(cell_at(plain_table(1, 1), 0, 0), 0)
        table = plain_table(4, 4)
        found = [cell_at(table, r, c) for r in range(4) for c in range(4)]
        self.assertEqual(found, list(range(16)))


class BreakableRowsTest(unittest.TestCase):
    def test_before_all_body_rows_but_the_first(self):
        self.assertEqual(breakable_rows(with_rows(*[row()] * 4)), [1, 2, 3])
        self.assertEqual(breakable_rows(with_rows(head(), row(), row(), row())), [2, 3])
        self.assertEqual(breakable_rows(with_rows(head(), head(), row(), row())), [3])

    def test_without_a_second_body_row(self):
        self.assertEqual(breakable_rows(with_rows(row())), [])
        self.assertEqual(breakable_rows(with_rows(head(), row())), [])
        self.assertEqual(breakable_rows(with_rows(head(), head())), [])

    def test_rows_that_keep(self):
        self.assertEqual(breakable_rows(with_rows(row(), row(keeps=True), row(), row())), [1, 3])
        self.assertEqual(breakable_rows(with_rows(row(keeps=True), row(), row())), [2])
        self.assertEqual(breakable_rows(with_rows(row(), row(), row(keeps=True))), [1, 2])
        self.assertEqual(breakable_rows(with_rows(head(keeps=True), row(), row())), [2])
        self.assertEqual(breakable_rows(with_rows(*[row(keeps=True)] * 4)), [])

    def test_cells_over_several_rows(self):
        table = with_cells(4, 2, (0, 0, 1, 1, ()), (0, 1, 2, 1, ()), (1, 0, 1, 1, ()),
                           (2, 0, 1, 1, ()), (2, 1, 2, 1, ()), (3, 0, 1, 1, ()))
        self.assertEqual(breakable_rows(table), [2])
        self.assertEqual(breakable_rows(with_cells(4, 1, (0, 0, 3, 1, ()), (3, 0, 1, 1, ()))), [3])
        self.assertEqual(breakable_rows(with_cells(4, 1, (0, 0, 4, 1, ()))), [])

    def test_cells_over_several_head_rows(self):
        table = ((column(),), (head(), head(), row(), row()),
                 ((0, 0, 2, 1, ()), (2, 0, 1, 1, ()), (3, 0, 1, 1, ())))
        self.assertEqual(breakable_rows(table), [3])

    def test_a_kept_row_and_a_cell_over_rows(self):
        table = ((column(),), (row(keeps=True), row(), row(), row()),
                 ((0, 0, 1, 1, ()), (1, 0, 2, 1, ()), (3, 0, 1, 1, ())))
        self.assertEqual(breakable_rows(table), [3])


if __name__ == "__main__":
    unittest.main()
