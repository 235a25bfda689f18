"""Manuscripts: points 20, 21 and 22."""

import unittest

from boundbook.errors import BadManuscript, BookError, Refused
from boundbook.manuscripts import read_manuscript, write_manuscript
from support import column, head, plain_table, random_table, row, table_of

PRICES = """table
column 1 - - left
column 3 20 40 right
column 2 - 5 center
row 1 head
row 2 body keep
row 6 body
cell 0 0 1 3 Prices of: (all)
cell 1 0 2 1
cell 1 1 1 2 red paper 1/2 ?
cell 2 1 1 1 thread;
cell 2 2 1 1 'x'"""

PRICES_TABLE = (
    ((1, None, None, "left"), (3, 20, 40, "right"), (2, None, 5, "center")),
    ((1, True, False), (2, False, True), (6, False, False)),
    (
        (0, 0, 1, 3, ("Prices", "of:", "(all)")),
        (1, 0, 2, 1, ()), (1, 1, 1, 2, ("red", "paper", "1/2", "?")),
        (2, 1, 1, 1, ("thread;",)), (2, 2, 1, 1, ("'x'",)),
    ),
)
LEAST = "table\ncolumn 1 - - left\nrow 1 body\ncell 0 0 1 1"
LEAST_TABLE = (((1, None, None, "left"),), ((1, False, False),), ((0, 0, 1, 1, ()),))


class ManuscriptCase(unittest.TestCase):
    def bad(self, text, line, what):
        with self.assertRaises(BadManuscript) as caught:
            read_manuscript(text)
        self.assertEqual((caught.exception.line, caught.exception.what), (line, what), text)
        self.assertIsInstance(caught.exception, BookError)
        self.assertNotIsInstance(caught.exception, Refused)

    def unknown(self, *lines):
        for line in lines:
            self.bad("table\n" + line, 2, "line is not known")

    def known(self, *lines):
        """Each line is known, so that only the table that it makes is faulty."""
        for line in lines:
            with self.assertRaises(BadManuscript) as caught:
                read_manuscript("table\n" + line)
            self.assertEqual(caught.exception.line, 1, line)


class ReadTest(ManuscriptCase):
    def test_a_table(self):
        self.assertEqual(read_manuscript(PRICES), (PRICES_TABLE,))
        self.assertEqual(read_manuscript(LEAST), (LEAST_TABLE,))

    def test_kinds_of_values(self):
        (columns, rows, cells), = read_manuscript(PRICES)
        self.assertIsInstance(read_manuscript(PRICES), tuple)
        for part in (columns, rows, cells, columns[0], rows[0], cells[0], cells[0][4]):
            self.assertIsInstance(part, tuple)
        self.assertIs(rows[0][1], True)
        self.assertIs(rows[0][2], False)
        self.assertIs(rows[1][2], True)
        self.assertIs(columns[0][1], None)

    def test_several_tables(self):
        self.assertEqual(read_manuscript(LEAST + "\n" + PRICES + "\n" + LEAST),
                         (LEAST_TABLE, PRICES_TABLE, LEAST_TABLE))

    def test_no_tables(self):
        for text in ("", " ", "\n", "\n\n   \n \n", "     "):
            self.assertEqual(read_manuscript(text), ())

    def test_more_spaces_and_empty_lines(self):
        text = "\n   \n" + PRICES.replace("\n", "  \n\n   ").replace(" ", "  ") + "\n \n"
        self.assertEqual(read_manuscript(text), (PRICES_TABLE,))

    def test_only_spaces_stand_between_the_parts(self):
        self.unknown("row\t1 body", "row 1 body\t", "\trow 1 body", "\t", "row 1 body\r", "cell 0 0 1 1 a\tb")
        self.bad("\t", 1, "table is expected")

    def test_words_may_look_like_the_beginning_of_a_line(self):
        text = LEAST + " table row cell keep"
        self.assertEqual(read_manuscript(text)[0][2], ((0, 0, 1, 1, ("table", "row", "cell", "keep")),))

    def test_most_and_percent_without_a_value(self):
        self.assertEqual(read_manuscript(LEAST.replace("1 - -", "2 - 100"))[0][0], ((2, None, 100, "left"),))
        self.assertEqual(read_manuscript(LEAST.replace("1 - -", "2 40 -"))[0][0], ((2, 40, None, "left"),))


class LinesTest(ManuscriptCase):
    def test_table_is_expected(self):
        for line in ("row 1 body", "column 1 - - left", "cell 0 0 1 1", "tables", "Table", "table 1", "-"):
            self.bad(line, 1, "table is expected")
            self.bad("\n  \n " + line + "\n" + LEAST, 3, "table is expected")

    def test_twelve_tables_and_thirteen(self):
        self.assertEqual(read_manuscript("\n".join([LEAST] * 12)), (LEAST_TABLE,) * 12)
        self.bad("\n".join([LEAST] * 13), 49, "too many tables")
        self.bad("\n\n".join([LEAST] * 14), 61, "too many tables")
        self.bad("\n".join(["table"] * 13), 13, "too many tables")
        self.bad("\n".join([LEAST] * 12 + ["  table "]), 49, "too many tables")

    def test_lines_of_no_form(self):
        self.unknown("x", "table 1", "tables", "TABLE", "table table", "columns 1 - - left", "rows 1 body",
                     "cells 0 0 1 1", "Row 1 body", "-", "1", "head", "keep", "row1 body")

    def test_columns_of_no_form(self):
        self.unknown("column", "column 1", "column 1 -", "column 1 - -", "column 1 - - left left",
                     "column - - - left", "column 1 - - middle", "column 1 - - Left", "column 1 - left -",
                     "column 1 -- - left", "column 1 - -1 left", "column +1 - - left", "column 1.0 - - left",
                     "column a - - left", "column 1 a - left", "column 1 - a left", "column 1 - - -",
                     "column 1 None - left")

    def test_bounds_of_columns(self):
        self.known("column 1 - - left", "column 20 - - right", "column 20 20 - center", "column 1 1 - left",
                   "column 1 40 - left", "column 20 40 100 left", "column 5 5 1 left", "column 1 - 1 left")
        self.unknown("column 0 - - left", "column 21 - - left", "column 20 19 - left", "column 1 0 - left",
                     "column 1 41 - left", "column 5 4 - left", "column 1 - 0 left", "column 1 - 101 left",
                     "column 1 100 - left", "column 1 - 1000 left")

    def test_rows_of_no_form(self):
        self.unknown("row", "row 1", "row body", "row body 1", "row - body", "row 1 foot", "row 1 keep",
                     "row 1 body keeps", "row 1 body head", "row 1 head body", "row 1 body keep keep",
                     "row 1 keep body", "row 1 Body", "row a body", "row -1 body", "row 1 body -")

    def test_bounds_of_rows(self):
        self.known("row 1 body", "row 6 body", "row 1 head", "row 6 head keep", "row 1 body keep")
        self.unknown("row 0 body", "row 7 body", "row 0 head keep", "row 10 body")

    def test_cells_of_no_form(self):
        self.unknown("cell", "cell 0", "cell 0 0", "cell 0 0 1", "cell a 0 1 1", "cell 0 0 1 b", "cell 0 0 - 1",
                     "cell -1 0 1 1", "cell 0 -1 1 1", "cell a b c d e")

    def test_bounds_of_cells(self):
        self.known("cell 0 0 1 1", "cell 3 3 4 4", "cell 3 0 1 4", "cell 0 3 4 1")
        self.unknown("cell 4 0 1 1", "cell 0 4 1 1", "cell 0 0 0 1", "cell 0 0 1 0", "cell 0 0 5 1", "cell 0 0 1 5")

    def test_leading_zeros(self):
        self.unknown("column 01 - - left", "column 1 04 - left", "column 1 - 050 left", "column 1 - 00 left",
                     "row 01 body", "row 006 head", "cell 00 0 1 1", "cell 0 00 1 1", "cell 0 0 01 1",
                     "cell 0 0 1 01", "cell 01 0 1 1")

    def test_long_numbers(self):
        many = "9" * 5000
        self.unknown(f"column {many} - - left", f"column 1 {many} - left", f"column 1 - {many} left",
                     f"row {many} body", f"cell {many} 0 1 1", f"cell 0 0 1 {many}", f"row 0{many} body")

    def test_words(self):
        self.known("cell 0 0 1 1 a b c d", "cell 0 0 1 1 abcdefgh", "cell 0 0 1 1 abcdefgh abcdefgh abcdefgh abcdefgh",
                   "cell 0 0 1 1 AZ az 09 .,:;!?'(", "cell 0 0 1 1 )/")
        self.unknown("cell 0 0 1 1 a b c d e", "cell 0 0 1 1 abcdefghi", "cell 0 0 1 1 a abcdefghi",
                     "cell 0 0 1 1 a-b", "cell 0 0 1 1 a+b", "cell 0 0 1 1 a|b", "cell 0 0 1 1 a_b", 'cell 0 0 1 1 "a"')

    def test_order_is_wrong(self):
        columns, rows, cells = "column 1 - - left", "row 1 body", "cell 0 0 1 1"
        for lines, line in (
            ((rows, columns), 3), ((cells, columns), 3), ((cells, rows), 3), ((columns, rows, columns), 4),
            ((columns, rows, cells, rows), 5), ((columns, rows, cells, columns), 5),
            ((columns, cells, rows), 4), ((rows, rows, columns), 4),
        ):
            self.bad("\n".join(("table",) + lines), line, "order is wrong")

    def test_the_order_begins_again_with_each_table(self):
        self.assertEqual(len(read_manuscript(LEAST + "\n" + LEAST)), 2)
        self.bad(LEAST + "\ntable\nrow 1 body\ncolumn 1 - - left", 7, "order is wrong")


class FaultsOfTablesTest(ManuscriptCase):
    def test_each_fault(self):
        for lines, what in (
            ((), "columns are wrong"),
            (("row 1 body", "cell 0 0 1 1"), "columns are wrong"),
            (("column 1 - - left",) * 5 + ("row 1 body", "cell 0 0 1 4"), "columns are wrong"),
            (("column 1 - - left", "cell 0 0 1 1"), "rows are wrong"),
            (("column 1 - - left",) + ("row 1 body",) * 5 + ("cell 0 0 4 1",), "rows are wrong"),
            (("column 1 - - left", "row 1 body", "row 1 head", "cell 0 0 2 1"), "head rows come first"),
            (("column 1 - - left", "row 1 body", "row 1 body", "cell 1 0 1 1", "cell 0 0 1 1"),
             "cells are not in order"),
            (("column 1 - - left", "row 1 body", "cell 0 0 2 1"), "cell lies outside"),
            (("column 1 - - left", "row 1 body"), "place is not covered once"),
            (("column 1 - - left", "row 1 body", "cell 0 0 1 1", "cell 0 0 1 1"), "place is not covered once"),
            (("column 1 - - left", "row 1 head", "row 1 body", "cell 0 0 2 1"), "cell crosses the head"),
        ):
            self.bad("\n".join(("table",) + lines), 1, what)
            self.bad(" \n" + LEAST + "\n\n" + "\n".join(("table",) + lines) + "\n" + LEAST, 7, what)

    def test_the_first_table_with_a_fault_counts(self):
        self.bad(LEAST + "\n table\n\n" + "table\ncolumn 1 - - left", 5, "columns are wrong")
        self.bad(LEAST + "\ntable\ncolumn 1 - - left\ntable", 5, "rows are wrong")

    def test_faults_of_lines_come_before_those_of_tables(self):
        self.bad("table\ntable\nrow 9 body", 3, "line is not known")
        self.bad("table\n" + LEAST + "\ncolumn 1 - - left", 6, "order is wrong")
        self.bad("\n".join(["table"] + [LEAST] * 12), 46, "too many tables")
        self.bad("table\n" + LEAST + "\ntable of", 6, "line is not known")

    def test_the_first_line_with_a_fault_counts(self):
        self.bad("x\ntable\nx", 1, "table is expected")
        self.bad("table\nx\ncell 0 0 1 1\nrow 1 body", 2, "line is not known")
        self.bad("table\ncell 0 0 1 1\nrow 1 body\nx", 3, "order is wrong")
        self.bad("\n".join(["table"] * 12 + ["x", "table"]), 13, "line is not known")
        self.bad("\n".join(["table"] * 13 + ["x"]), 13, "too many tables")

    def test_of_two_faults_in_a_line_the_one_told_first(self):
        self.bad("row 9 body", 1, "table is expected")
        self.bad("table\ncell 0 0 1 1\nrow 9 body", 3, "line is not known")
        self.bad("table\nrow 1 body\ncolumn 1 - - middle", 3, "line is not known")


class WriteTest(unittest.TestCase):
    def test_a_table(self):
        self.assertEqual(write_manuscript((PRICES_TABLE,)), PRICES)
        self.assertEqual(write_manuscript((LEAST_TABLE,)), LEAST)

    def test_head_rows_that_keep(self):
        text = write_manuscript((table_of([column(20, 40, 100, "center")], [head(6, True), row(1, keeps=True)],
                                          [["a"], ["b c d e"]]),))
        self.assertEqual(text, "table\ncolumn 20 40 100 center\nrow 6 head keep\nrow 1 body keep\n"
                               "cell 0 0 1 1 a\ncell 1 0 1 1 b c d e")

    def test_no_tables(self):
        self.assertEqual(write_manuscript(()), "")

    def test_several_tables(self):
        self.assertEqual(write_manuscript((LEAST_TABLE, PRICES_TABLE)), LEAST + "\n" + PRICES)
        self.assertEqual(write_manuscript((plain_table(1, 1),) * 12).count("table"), 12)

    def test_what_is_written_is_read(self):
        tables = tuple(random_table(seed, 1 + seed % 4, 1 + seed // 4 % 4, 4, 8) for seed in range(240))
        for first in range(0, 240, 12):
            some = tables[first:first + 12]
            self.assertEqual(read_manuscript(write_manuscript(some)), some)

    def test_what_is_read_is_written_with_single_spaces(self):
        text = ("\n" + PRICES + "\n\n" + LEAST).replace(" ", "   ").replace("\n", " \n  ")
        self.assertEqual(write_manuscript(read_manuscript(text)), PRICES + "\n" + LEAST)


if __name__ == "__main__":
    unittest.main()
