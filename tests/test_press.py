"""The press: points 35 and 36."""

import random
import unittest

from boundbook.errors import BookError, Refused
from boundbook.press import cut_print, join_prints, printing_method, turn_print, work_and_tumble, work_and_turn
from paper import AXES, EDGES, marked_sheet, printed_paper, turned_mark


def up(*pages):
    return tuple((page, False) for page in pages)


def down(*pages):
    return tuple((page, True) for page in pages)


SHEET = ((up(1, 2, 3), down(4, 5, 6)), (up(7, 8, 9), down(10, 11, 12)))


def sheet_of_paper(paper):
    """The print of a flat sheet as it lies."""
    rows, columns = paper.size()
    for leaves in paper.cells.values():
        assert len(leaves) == 1
    front = tuple(tuple(paper.cells[(r, c)][0][1] for c in range(columns)) for r in range(rows))
    back = tuple(tuple(paper.cells[(r, columns - 1 - c)][0][2] for c in range(columns)) for r in range(rows))
    return (front, back)


def random_sheet(rng, rows, columns, pages=50):
    return tuple(tuple(tuple((rng.randrange(pages), rng.random() < 0.5) for _ in range(columns))
                       for _ in range(rows)) for _ in range(2))


def plainly_rotated(side):
    return tuple(tuple(turned_mark(mark) for mark in reversed(row)) for row in reversed(side))


class PressCase(unittest.TestCase):
    def raises(self, what, call, *arguments):
        with self.assertRaises(Refused) as caught:
            call(*arguments)
        self.assertEqual(caught.exception.what, what)
        self.assertIsInstance(caught.exception, BookError)


class TurnTest(PressCase):
    def test_about_each_axis(self):
        front, back = SHEET
        self.assertEqual(turn_print(SHEET, "vertical"), (back, front))
        self.assertEqual(turn_print(SHEET, "horizontal"),
                         ((up(12, 11, 10), down(9, 8, 7)), (up(6, 5, 4), down(3, 2, 1))))
        self.assertEqual(turn_print(SHEET, "both"),
                         ((up(6, 5, 4), down(3, 2, 1)), (up(12, 11, 10), down(9, 8, 7))))

    def test_one_panel(self):
        sheet = ((up(1),), (down(2),))
        self.assertEqual(turn_print(sheet, "vertical"), ((down(2),), (up(1),)))
        self.assertEqual(turn_print(sheet, "horizontal"), ((up(2),), (down(1),)))
        self.assertEqual(turn_print(sheet, "both"), ((down(1),), (up(2),)))

    def test_twice_is_nothing_and_both_are_one_after_the_other(self):
        for axis in AXES:
            self.assertEqual(turn_print(turn_print(SHEET, axis), axis), SHEET)
        self.assertEqual(turn_print(turn_print(SHEET, "vertical"), "horizontal"), turn_print(SHEET, "both"))
        self.assertEqual(turn_print(turn_print(SHEET, "horizontal"), "vertical"), turn_print(SHEET, "both"))

    def test_as_paper_is_turned(self):
        for seed in range(60):
            rng = random.Random(seed)
            sheet = random_sheet(rng, rng.randint(1, 8), rng.randint(1, 8))
            for axis in AXES:
                turned = printed_paper(0, sheet).turned(axis)
                self.assertEqual(turn_print(sheet, axis), sheet_of_paper(turned))


class CutTest(PressCase):
    def test_each_edge(self):
        self.assertEqual(cut_print(SHEET, "left", 1), (
            ((up(2, 3), down(5, 6)), (up(7, 8), down(10, 11))), ((up(1), down(4)), (up(9), down(12)))))
        self.assertEqual(cut_print(SHEET, "left", 2), (
            ((up(3), down(6)), (up(7), down(10))), ((up(1, 2), down(4, 5)), (up(8, 9), down(11, 12)))))
        self.assertEqual(cut_print(SHEET, "right", 1), (
            ((up(1, 2), down(4, 5)), (up(8, 9), down(11, 12))), ((up(3), down(6)), (up(7), down(10)))))
        self.assertEqual(cut_print(SHEET, "right", 2), (
            ((up(1), down(4)), (up(9), down(12))), ((up(2, 3), down(5, 6)), (up(7, 8), down(10, 11)))))
        self.assertEqual(cut_print(SHEET, "top", 1), (
            ((down(4, 5, 6),), (down(10, 11, 12),)), ((up(1, 2, 3),), (up(7, 8, 9),))))
        self.assertEqual(cut_print(SHEET, "bottom", 1), (
            ((up(1, 2, 3),), (up(7, 8, 9),)), ((down(4, 5, 6),), (down(10, 11, 12),))))

    def test_as_paper_is_cut(self):
        for seed in range(60):
            rng = random.Random(seed)
            rows, columns = rng.randint(2, 8), rng.randint(2, 8)
            sheet = random_sheet(rng, rows, columns)
            for edge in EDGES:
                line = rng.randint(1, (columns if edge in ("left", "right") else rows) - 1)
                rest, part = printed_paper(0, sheet).cut(edge, line)
                self.assertEqual(cut_print(sheet, edge, line), (sheet_of_paper(rest), sheet_of_paper(part)))

    def test_lines_that_leave_one_column_or_none(self):
        for size in range(1, 9):
            for edge in EDGES:
                sheet = marked_sheet(0, 2, size) if edge in ("left", "right") else marked_sheet(0, size, 2)
                for line in range(1, 8):
                    if line < size:
                        self.assertEqual(len(cut_print(sheet, edge, line)), 2)
                    else:
                        self.raises("line outside the print", cut_print, sheet, edge, line)


class JoinTest(PressCase):
    def test_along_each_axis(self):
        first = ((up(1, 2),), (up(3, 4),))
        second = ((down(5),), (down(6),))
        self.assertEqual(join_prints(first, second, "vertical"), ((up(1, 2) + down(5),), (down(6) + up(3, 4),)))
        self.assertEqual(join_prints(second, first, "vertical"), ((down(5) + up(1, 2),), (up(3, 4) + down(6),)))
        third = ((down(5, 6), up(7, 8)), (down(9, 10), up(11, 12)))
        self.assertEqual(join_prints(first, third, "horizontal"),
                         ((up(1, 2), down(5, 6), up(7, 8)), (up(3, 4), down(9, 10), up(11, 12))))
        self.assertEqual(join_prints(third, first, "horizontal"),
                         ((down(5, 6), up(7, 8), up(1, 2)), (down(9, 10), up(11, 12), up(3, 4))))

    def test_each_row(self):
        self.assertEqual(join_prints(SHEET, SHEET, "vertical"), (
            (up(1, 2, 3, 1, 2, 3), down(4, 5, 6, 4, 5, 6)), (up(7, 8, 9, 7, 8, 9), down(10, 11, 12, 10, 11, 12))))

    def test_what_is_joined_is_cut_again(self):
        for seed in range(60):
            rng = random.Random(seed)
            length, many, more = rng.randint(1, 8), rng.randint(1, 7), 0
            more = rng.randint(1, 8 - many)
            first, second = random_sheet(rng, length, many), random_sheet(rng, length, more)
            joined = join_prints(first, second, "vertical")
            self.assertEqual(cut_print(joined, "right", more), (first, second))
            self.assertEqual(cut_print(joined, "left", many), (second, first))
            first, second = random_sheet(rng, many, length), random_sheet(rng, more, length)
            joined = join_prints(first, second, "horizontal")
            self.assertEqual(cut_print(joined, "bottom", more), (first, second))
            self.assertEqual(cut_print(joined, "top", many), (second, first))

    def test_prints_that_differ_in_rows_or_columns(self):
        rows = (marked_sheet(0, 2, 3), marked_sheet(0, 1, 3))
        columns = (marked_sheet(0, 2, 3), marked_sheet(0, 2, 2))
        self.raises("prints differ in size", join_prints, *rows, "vertical")
        self.raises("prints differ in size", join_prints, *columns, "horizontal")
        self.assertEqual(len(join_prints(*rows, "horizontal")[0]), 3)
        self.assertEqual(len(join_prints(*columns, "vertical")[0][0]), 5)
        for axis in ("vertical", "horizontal"):
            self.raises("prints differ in size", join_prints, marked_sheet(0, 2, 3), marked_sheet(0, 3, 2), axis)

    def test_eight_rows_or_columns_and_one_more(self):
        for many in range(1, 9):
            wide, high = marked_sheet(0, 8, many), marked_sheet(0, many, 8)
            if many < 8:
                self.assertEqual(len(join_prints(wide, marked_sheet(1, 8, 8 - many), "vertical")[0][0]), 8)
                self.assertEqual(len(join_prints(high, marked_sheet(1, 8 - many, 8), "horizontal")[0]), 8)
            self.raises("print is too large", join_prints, wide, marked_sheet(1, 8, 9 - many), "vertical")
            self.raises("print is too large", join_prints, high, marked_sheet(1, 9 - many, 8), "horizontal")
        self.raises("print is too large", join_prints, marked_sheet(0, 1, 8), marked_sheet(0, 1, 1), "vertical")
        self.assertEqual(len(join_prints(marked_sheet(0, 1, 8), marked_sheet(0, 1, 8), "horizontal")[0]), 2)

    def test_differing_is_told_first(self):
        self.raises("prints differ in size", join_prints, marked_sheet(0, 2, 8), marked_sheet(0, 1, 8), "vertical")
        self.raises("prints differ in size", join_prints, marked_sheet(0, 8, 2), marked_sheet(0, 8, 1), "horizontal")


class MethodsTest(PressCase):
    def test_work_and_turn(self):
        self.assertEqual(work_and_turn(((up(1, 2),), (up(3, 4),))), ((up(1, 2, 3, 4),), (up(1, 2, 3, 4),)))
        self.assertEqual(work_and_turn(SHEET), (
            (up(1, 2, 3, 7, 8, 9), down(4, 5, 6, 10, 11, 12)), (up(1, 2, 3, 7, 8, 9), down(4, 5, 6, 10, 11, 12))))

    def test_work_and_tumble(self):
        self.assertEqual(work_and_tumble(((up(1, 2),), (up(3, 4),))),
                         ((up(1, 2), down(4, 3)), (up(3, 4), down(2, 1))))
        self.assertEqual(work_and_tumble(SHEET), (
            (up(1, 2, 3), down(4, 5, 6), up(12, 11, 10), down(9, 8, 7)),
            (up(7, 8, 9), down(10, 11, 12), up(6, 5, 4), down(3, 2, 1))))

    def test_the_halves_are_the_print_and_the_print_turned(self):
        for seed in range(40):
            rng = random.Random(seed)
            sheet = random_sheet(rng, rng.randint(1, 4), rng.randint(1, 4))
            rows, columns = len(sheet[0]), len(sheet[0][0])
            self.assertEqual(cut_print(work_and_turn(sheet), "right", columns), (sheet, turn_print(sheet, "vertical")))
            self.assertEqual(cut_print(work_and_tumble(sheet), "bottom", rows), (sheet, turn_print(sheet, "horizontal")))

    def test_prints_that_become_too_large(self):
        self.assertEqual(len(work_and_turn(marked_sheet(0, 8, 4))[0][0]), 8)
        self.assertEqual(len(work_and_tumble(marked_sheet(0, 4, 8))[0]), 8)
        self.raises("print is too large", work_and_turn, marked_sheet(0, 1, 5))
        self.raises("print is too large", work_and_tumble, marked_sheet(0, 5, 1))

    def test_the_method_of_a_print(self):
        front = (up(1, 2), down(3, 4))
        self.assertEqual(printing_method((front, front)), "work and turn")
        self.assertEqual(printing_method((front, (up(4, 3), down(2, 1)))), "work and tumble")
        self.assertEqual(printing_method((front, (up(1, 2), up(3, 4)))), "sheetwise")
        self.assertEqual(printing_method((front, (down(4, 3), up(2, 1)))), "sheetwise")
        self.assertEqual(printing_method((front, (up(2, 1), down(4, 3)))), "sheetwise")

    def test_a_back_that_equals_the_front_and_the_rotated_front(self):
        front = (up(1) + up(2), down(2) + down(1))
        self.assertEqual(plainly_rotated(front), front)
        self.assertEqual(printing_method((front, front)), "work and turn")

    def test_one_panel(self):
        self.assertEqual(printing_method(((up(1),), (up(1),))), "work and turn")
        self.assertEqual(printing_method(((up(1),), (down(1),))), "work and tumble")
        self.assertEqual(printing_method(((up(1),), (up(2),))), "sheetwise")
        self.assertEqual(printing_method(((up(0),), (up(0),))), "work and turn")

    def test_the_methods_of_prints_that_were_made_so(self):
        for seed in range(40):
            rng = random.Random(seed)
            sheet = random_sheet(rng, rng.randint(1, 4), rng.randint(1, 4))
            self.assertEqual(printing_method(work_and_turn(sheet)), "work and turn")
            tumbled = work_and_tumble(sheet)
            wanted = "work and turn" if tumbled[0] == tumbled[1] else "work and tumble"
            self.assertEqual(printing_method(tumbled), wanted)
            front, back = random_sheet(rng, 2, 2)
            self.assertEqual(printing_method((front, back)),
                             "work and turn" if back == front else
                             "work and tumble" if back == plainly_rotated(front) else "sheetwise")

    def test_prints_are_tuples(self):
        for sheet in (turn_print(SHEET, "both"), *cut_print(SHEET, "left", 1), *cut_print(SHEET, "top", 1),
                      join_prints(SHEET, SHEET, "vertical"), join_prints(SHEET, SHEET, "horizontal"),
                      work_and_turn(SHEET), work_and_tumble(SHEET)):
            rows = [row for side in sheet for row in side]
            marks = [mark for row in rows for mark in row]
            self.assertEqual({type(part) for part in [sheet, *sheet, *rows, *marks]}, {tuple})


if __name__ == "__main__":
    unittest.main()
