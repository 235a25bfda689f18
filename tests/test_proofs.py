"""Proofs of prints: point 50."""

import random
import unittest

from boundbook.errors import BadManuscript, BookError, Refused
from boundbook.imposition import impose
from boundbook.proofs import read_print, write_print
from jobs import inks_job, random_job
from paper import random_plan


def up(*pages):
    return tuple((page, False) for page in pages)


def down(*pages):
    return tuple((page, True) for page in pages)


def random_sheet(seed):
    rng = random.Random(seed)
    rows, columns = rng.randint(1, 8), rng.randint(1, 8)
    return tuple(tuple(tuple((rng.choice((0, 9999, rng.randrange(10000))), rng.random() < 0.5)
                             for _ in range(columns)) for _ in range(rows)) for _ in range(2))


def lines_of(*lines):
    return "\n".join(lines)


class WriteTest(unittest.TestCase):
    def test_the_example(self):
        self.assertEqual(write_print(((((3, True), (6, False)),), (((5, False), (4, True)),))),
                         "front\n3v 6\nback\n5 4v")

    def test_several_rows(self):
        self.assertEqual(write_print(((up(1, 2), down(3, 4)), (down(5, 6), up(7, 8)))),
                         lines_of("front", "1 2", "3v 4v", "back", "5v 6v", "7 8"))

    def test_page_0_and_9999(self):
        self.assertEqual(write_print(((up(0) + down(9999),), (down(0) + up(9999),))),
                         lines_of("front", "0 9999v", "back", "0v 9999"))

    def test_one_panel_and_eight_rows_and_columns(self):
        self.assertEqual(write_print(((up(7),), (up(8),))), "front\n7\nback\n8")
        side = (up(*range(1, 9)),) * 8
        text = write_print((side, side))
        self.assertEqual(text.split("\n"), ["front"] + ["1 2 3 4 5 6 7 8"] * 8 + ["back"] + ["1 2 3 4 5 6 7 8"] * 8)


class ReadTest(unittest.TestCase):
    def test_the_example(self):
        self.assertEqual(read_print("front\n3v 6\nback\n5 4v"),
                         ((((3, True), (6, False)),), (((5, False), (4, True)),)))

    def test_page_0_and_9999(self):
        self.assertEqual(read_print("front\n0 9999v 0v\nback\n9999 0 10"),
                         ((up(0) + down(9999, 0),), (up(9999, 0, 10),)))

    def test_what_is_written_is_read_again(self):
        for seed in range(200):
            sheet = random_sheet(seed)
            text = write_print(sheet)
            self.assertEqual(read_print(text), sheet)
            self.assertEqual(write_print(read_print(text)), text)

    def test_prints_of_plans_and_jobs(self):
        for seed in range(30):
            plan = random_plan(seed)
            leaves = sum(step[1] * step[2] for step in plan if step[0] == "sheet")
            for sheet in impose(plan, list(range(2 * leaves))):
                self.assertEqual(read_print(write_print(sheet)), sheet)
        for job in [inks_job()] + [random_job(seed) for seed in range(20)]:
            for signature in range(job.signature_count()):
                self.assertEqual(read_print(write_print(job.sheet(signature))), job.sheet(signature))

    def test_prints_are_tuples(self):
        sheet = read_print("front\n1 2\n3 4\nback\n5 6\n7 8")
        rows = [line for side in sheet for line in side]
        marks = [mark for line in rows for mark in line]
        self.assertEqual({type(part) for part in [sheet, *sheet, *rows, *marks]}, {tuple})
        self.assertEqual({(type(page), type(is_rotated)) for page, is_rotated in marks}, {(int, bool)})


class ProofCase(unittest.TestCase):
    def bad(self, text, line, what):
        with self.assertRaises(BadManuscript) as caught:
            read_print(text)
        self.assertEqual((caught.exception.line, caught.exception.what), (line, what), text)
        self.assertIsInstance(caught.exception, BookError)
        self.assertNotIsInstance(caught.exception, Refused)


class FaultsTest(ProofCase):
    def test_front_is_expected(self):
        for text in ("", "\n", "back", "1 2", "front ", " front", "Front", "fronts", "front v\n1", "\nfront\n1\nback\n1",
                     "back\n1\nfront\n1", "1\nfront\n1\nback\n1"):
            self.bad(text, 1, "front is expected")

    def test_back_is_expected_where_another_front_stands(self):
        self.bad(lines_of("front", "1 2", "front", "3 4"), 3, "back is expected")
        self.bad(lines_of("front", "1", "2", "front", "back", "3", "4"), 4, "back is expected")

    def test_back_is_expected_behind_the_last_line(self):
        self.bad(lines_of("front", "1 2"), 3, "back is expected")
        self.bad(lines_of("front", "1", "2", "3"), 5, "back is expected")
        self.bad(lines_of("front", *["1"] * 8), 10, "back is expected")

    def test_the_height_is_looked_at_before_what_stands_there(self):
        self.bad("front", 1, "side has a wrong height")
        self.bad(lines_of("front", "front", "1"), 1, "side has a wrong height")
        self.bad(lines_of("front", *["1"] * 9), 1, "side has a wrong height")
        self.bad(lines_of("front", *["1"] * 9, "front"), 1, "side has a wrong height")
        self.bad(lines_of("front", "1", "back", "front"), 3, "side has a wrong height")
        self.bad(lines_of("front", "1", "back", "1", "1", "back"), 3, "side has a wrong height")

    def test_parts_that_are_no_marks(self):
        for part in ("v", "vv", "1vv", "v1", "1V", "-1", "+1", "1.", "01", "00", "0001", "01v", "10000", "10000v",
                     "99999", "a", "1a", "front1", "1_0", "(1)", "1,2", "\t1", "1\t"):
            self.bad(lines_of("front", part, "back", "1"), 2, "line is not known")
            self.bad(lines_of("front", "1 2", "3 " + part, "back", "1 2", "3 4"), 3, "line is not known")
            self.bad(lines_of("front", "1", "back", part), 4, "line is not known")

    def test_one_space_between_marks(self):
        for row in ("1  2", " 1 2", "1 2 ", "", " ", "1 2  "):
            self.bad(lines_of("front", row, "back", "3 4"), 2, "line is not known")
            self.bad(lines_of("front", "1 2", "back", row), 4, "line is not known")

    def test_words_of_sides_within_a_row(self):
        self.bad(lines_of("front", "1 2", "back 1", "3 4"), 3, "line is not known")
        self.bad(lines_of("front", "1 2", "back ", "3 4"), 3, "line is not known")
        self.bad(lines_of("front", "1 front", "back", "3 4"), 2, "line is not known")

    def test_more_than_eight_marks(self):
        eight, nine = "1 2 3 4 5 6 7 8", "1 2 3 4 5 6 7 8 9"
        self.assertEqual(len(read_print(lines_of("front", eight, "back", eight))[0][0]), 8)
        self.bad(lines_of("front", nine, "back", nine), 2, "line is not known")
        self.bad(lines_of("front", eight, nine, "back", eight, eight), 3, "line is not known")
        self.bad(lines_of("front", "1", nine), 3, "line is not known")
        self.bad(lines_of("front", eight, "back", nine), 4, "line is not known")

    def test_row_has_another_length(self):
        self.bad(lines_of("front", "1 2", "3", "back", "1 2", "3 4"), 3, "row has another length")
        self.bad(lines_of("front", "1 2", "3 4 5", "back", "1 2", "3 4"), 3, "row has another length")
        self.bad(lines_of("front", "1 2", "back", "3"), 4, "row has another length")
        self.bad(lines_of("front", "1", "back", "3 4"), 4, "row has another length")
        self.bad(lines_of("front", "1 2", "3 4", "back", "1 2", "3 4 5"), 6, "row has another length")

    def test_sides_without_rows(self):
        self.bad(lines_of("front", "back", "1"), 1, "side has a wrong height")
        self.bad(lines_of("front", "1", "back"), 3, "side has a wrong height")
        self.bad(lines_of("front", "1", "2", "back"), 4, "side has a wrong height")

    def test_sides_of_eight_rows_and_of_nine(self):
        self.assertEqual(len(read_print(lines_of("front", *["1"] * 8, "back", *["2"] * 8))[1]), 8)
        self.bad(lines_of("front", *["1"] * 9, "back", *["2"] * 9), 1, "side has a wrong height")
        self.bad(lines_of("front", *["1"] * 8, "back", *["2"] * 9), 10, "side has a wrong height")

    def test_a_back_of_another_height(self):
        self.bad(lines_of("front", "1", "back", "2", "3"), 3, "side has a wrong height")
        self.bad(lines_of("front", "1", "2", "back", "3"), 4, "side has a wrong height")
        self.bad(lines_of("front", *["1"] * 8, "back", *["2"] * 7), 10, "side has a wrong height")

    def test_lines_behind_the_back(self):
        for side in ("front", "back"):
            self.bad(lines_of("front", "1", "back", "2", side), 5, "line is not known")
            self.bad(lines_of("front", "1", "back", "2", side, "3"), 5, "line is not known")
            self.bad(lines_of("front", "1", "2", "back", "3", "4", side), 7, "line is not known")
        self.bad(lines_of("front", "1", "back", "2", ""), 5, "line is not known")
        self.bad(lines_of("front", "1", "back", "2", "end"), 5, "line is not known")


class FirstFaultTest(ProofCase):
    """Two faults at once: the one that is met first is told."""

    def test_rows_before_the_height(self):
        self.bad(lines_of("front", *["1"] * 9, "x"), 11, "line is not known")
        self.bad(lines_of("front", *["1"] * 9, "1 2", "back"), 11, "row has another length")
        self.bad(lines_of("front", "1", "back", "2", "3", "x"), 6, "line is not known")
        self.bad(lines_of("front", "1", "back", "2", "3", "4 5"), 6, "row has another length")

    def test_unknown_before_another_length(self):
        self.bad(lines_of("front", "1 2", "3 4 x"), 3, "line is not known")
        self.bad(lines_of("front", "1 2", "3", "x"), 3, "row has another length")
        self.bad(lines_of("front", "1 2", "x", "3"), 3, "line is not known")

    def test_the_front_before_the_back(self):
        self.bad(lines_of("front", "back", "x"), 1, "side has a wrong height")
        self.bad(lines_of("front", "1", "front", "x"), 3, "back is expected")
        self.bad(lines_of("front", *["1"] * 9, "back"), 1, "side has a wrong height")
        self.bad(lines_of("back", "x"), 1, "front is expected")
        self.bad(lines_of("x", "back"), 1, "front is expected")

    def test_the_height_of_the_back_before_lines_behind_it(self):
        self.bad(lines_of("front", "1", "back", "2", "3", "front"), 3, "side has a wrong height")
        self.bad(lines_of("front", "1", "back", "back"), 3, "side has a wrong height")


if __name__ == "__main__":
    unittest.main()
