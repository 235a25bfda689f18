"""Drawings: points 18 and 19."""

import itertools
import random
import re
import unittest

from boundbook.drawing import draw, read_drawing
from boundbook.errors import BookError, Refused
from boundbook.rows import row_lines_for
from boundbook.sizes import lowest, narrowest_layout
from support import column, head, plain_table, random_table, row, table_of


def plainly_wrapped(words, width):
    lines = []
    for word in words:
        if lines and len(lines[-1]) + 1 + len(word) <= width:
            lines[-1] += " " + word
        else:
            lines.append(word)
    return lines


def character_at(table, layout, x, y):
    """The character of a drawing at a place, by the words of point 18."""
    columns, _, cells = table
    frames = [(layout[0][c], layout[1][r], layout[0][c + across], layout[1][r + down])
              for r, c, down, across, _ in cells]
    if any(x in (left, right) and y in (top, bottom) for left, top, right, bottom in frames):
        return "+"
    for (left, top, right, bottom), cell in zip(frames, cells):
        if y in (top, bottom) and left < x < right:
            return "-"
        if x in (left, right) and top < y < bottom:
            return "|"
        if left < x < right and top < y < bottom:
            width = right - left - 1
            lines = plainly_wrapped(cell[4], width)
            if y - top > len(lines):
                return " "
            text = lines[y - top - 1]
            free = width - len(text)
            before = {"left": 0, "right": free, "center": free // 2}[columns[cell[1]][3]]
            return (" " * before + text + " " * free)[x - left - 1]
    raise AssertionError("a place of no cell")


def plain_drawing(table, layout):
    return tuple("".join(character_at(table, layout, x, y) for x in range(layout[0][-1] + 1))
                 for y in range(layout[1][-1] + 1))


def plain_boxes(lines):
    """All boxes, by the words of point 19, after looking at all rectangles."""
    found = []
    width, height = len(lines[0]), len(lines)
    for top, left in itertools.product(range(height), range(width)):
        for right, bottom in itertools.product(range(left + 2, width), range(top + 2, height)):
            borders = lines[top][left:right + 1] + lines[bottom][left:right + 1]
            sides = "".join(line[left] + line[right] for line in lines[top:bottom + 1])
            inside = [line[left + 1:right] for line in lines[top + 1:bottom]]
            corners = lines[top][left] + lines[top][right] + lines[bottom][left] + lines[bottom][right]
            if (corners == "++++" and set(borders) <= set("+-") and set(sides) <= set("+|")
                    and not set("".join(inside)) & set("+-|")):
                words = [word for text in inside for word in re.findall("[^ ]+", text)]
                found.append((left, top, right, bottom, " ".join(words)))
    return found


def plainly_read(lines):
    boxes = plain_boxes(lines)
    for y, line in enumerate(lines):
        for x, character in enumerate(line):
            corners = [box for box in boxes if x in (box[0], box[2]) and y in (box[1], box[3])]
            borders = [box for box in boxes if box[0] <= x <= box[2] and box[1] <= y <= box[3]
                       and (x in (box[0], box[2]) or y in (box[1], box[3]))]
            inside = [box for box in boxes if box[0] < x < box[2] and box[1] < y < box[3]]
            if character == "+":
                right = bool(corners)
            elif character in "-|":
                right = bool(borders)
            else:
                right = len(inside) == 1
            if not right:
                return None
    return boxes


class DrawTest(unittest.TestCase):
    def test_the_least_drawing(self):
        self.assertEqual(draw(plain_table(1, 1), ((0, 2), (0, 2))), ("+-+", "|a|", "+-+"))
        self.assertEqual(draw(table_of([column()], [row()], [[""]]), ((0, 2), (0, 2))), ("+-+", "| |", "+-+"))

    def test_a_table_with_cells_over_several_places(self):
        columns = (column(), column(align="right"), column(align="center"))
        rows = (head(), row(), row())
        cells = (
            (0, 0, 1, 2, ("Prices", "today")), (0, 2, 1, 1, ("of",)),
            (1, 0, 2, 1, ("red", "paper")), (1, 1, 1, 1, ("12",)), (1, 2, 2, 1, ("an", "ell")),
            (2, 1, 1, 1, ("7",)),
        )
        self.assertEqual(draw((columns, rows, cells), ((0, 6, 13, 18), (0, 2, 4, 6))), (
            "+------------+----+",
            "|Prices today| of |",
            "+-----+------+----+",
            "|red  |    12| an |",
            "|paper+------+ell |",
            "|     |     7|    |",
            "+-----+------+----+",
        ))

    def test_the_size_is_that_of_the_layout(self):
        lines = draw(plain_table(2, 2), ((0, 9, 30), (0, 4, 7)))
        self.assertIsInstance(lines, tuple)
        self.assertEqual([len(line) for line in lines], [31] * 8)
        self.assertEqual(lines[1], "|a       |a                   |")
        self.assertEqual(lines[4], "+--------+--------------------+")

    def test_a_drawing_as_large_as_a_layout_may_be(self):
        lines = draw(plain_table(1, 1), ((0, 2000), (0, 2)))
        self.assertEqual(lines, ("+" + "-" * 1999 + "+", "|a" + " " * 1998 + "|", "+" + "-" * 1999 + "+"))

    def test_aligns_with_odd_and_even_free_space(self):
        for align, three, four in (("left", "ab   ", "ab    "), ("right", "   ab", "    ab"),
                                   ("center", " ab  ", "  ab  ")):
            table = table_of([column(align=align)], [row()], [["ab"]])
            self.assertEqual(draw(table, ((0, 6), (0, 2)))[1], "|" + three + "|")
            self.assertEqual(draw(table, ((0, 7), (0, 2)))[1], "|" + four + "|")

    def test_each_line_of_the_words_is_aligned(self):
        for align, lines in (("left", ("|ab cd|", "|e    |", "|     |")),
                             ("right", ("|ab cd|", "|    e|", "|     |")),
                             ("center", ("|ab cd|", "|  e  |", "|     |"))):
            table = table_of([column(align=align)], [row()], [["ab cd e"]])
            self.assertEqual(draw(table, ((0, 6), (0, 4)))[1:4], lines)

    def test_the_align_of_the_first_column_counts(self):
        columns = (column(align="left"), column(align="right"), column(align="center"))
        cells = ((0, 0, 1, 1, ()), (0, 1, 1, 2, ("a",)))
        self.assertEqual(draw((columns, (row(),), cells), ((0, 2, 4, 6), (0, 2)))[1], "| |  a|")
        cells = ((0, 0, 1, 3, ("a",)),)
        self.assertEqual(draw((columns, (row(),), cells), ((0, 2, 4, 6), (0, 2)))[1], "|a    |")

    def test_a_cell_without_words_over_several_rows_and_columns(self):
        table = ((column(align="right"),) * 2, (row(),) * 2, ((0, 0, 2, 2, ()),))
        self.assertEqual(draw(table, ((0, 2, 4), (0, 2, 4))), ("+---+", "|   |", "|   |", "|   |", "+---+"))

    def test_a_corner_on_the_border_of_another_cell(self):
        cells = ((0, 0, 1, 2, ()), (1, 0, 1, 1, ()), (1, 1, 1, 1, ()))
        table = ((column(),) * 2, (row(),) * 2, cells)
        self.assertEqual(draw(table, ((0, 2, 4), (0, 2, 4))), ("+---+", "|   |", "+-+-+", "| | |", "+-+-+"))
        cells = ((0, 0, 1, 1, ()), (0, 1, 2, 1, ()), (1, 0, 1, 1, ()))
        table = ((column(),) * 2, (row(),) * 2, cells)
        self.assertEqual(draw(table, ((0, 2, 4), (0, 2, 4))), ("+-+-+", "| | |", "+-+ |", "| | |", "+-+-+"))

    def test_random_tables_in_layouts_of_several_sizes(self):
        drawn = 0
        for seed in range(250):
            table = random_table(seed, 1 + seed % 4, 1 + seed // 4 % 4)
            layouts = [lowest(table, 2001), narrowest_layout(table, 2001)]
            if layouts[0] is not None:
                across, down = layouts[0]
                layouts.append((across, tuple(2 * line for line in down)))
            for layout in layouts:
                if layout is not None:
                    drawn += 1
                    self.assertEqual(draw(table, layout), plain_drawing(table, layout), table)
        self.assertGreater(drawn, 300)


class InvalidLayoutTest(unittest.TestCase):
    def refuses(self, table, layout):
        with self.assertRaises(Refused) as caught:
            draw(table, layout)
        self.assertEqual(caught.exception.what, "layout is not valid")
        self.assertIsInstance(caught.exception, BookError)

    def test_each_thing_that_a_layout_does_not_meet(self):
        columns = [column(2, 3, 50), column()]
        table = table_of(columns, [row(2), row()], [["ab", "cd ef"], ["", ""]])
        self.assertEqual(len(draw(table, ((0, 3, 6), (0, 3, 5)))), 6)
        self.refuses(table_of(columns, [row(2), row()], [["ab", "cd ef g"], ["", ""]]), ((0, 3, 6), (0, 3, 5)))
        self.refuses(table_of(columns, [row(2), row()], [["ab", "cde"], ["", ""]]), ((0, 3, 6), (0, 3, 5)))
        self.refuses(table_of([column(3, 3, 50), columns[1]], [row(2), row()], [["ab", "cd ef"], ["", ""]]),
                     ((0, 3, 6), (0, 3, 5)))
        self.refuses(table, ((0, 5, 9), (0, 3, 5)))
        self.refuses(table, ((0, 3, 7), (0, 3, 5)))
        self.refuses(table_of(columns, [row(2), row(2)], [["ab", "cd ef"], ["", ""]]), ((0, 3, 6), (0, 3, 5)))

    def test_the_layout_of_another_table(self):
        self.refuses(table_of([column()], [row()], [["abc"]]), ((0, 3), (0, 2)))
        self.assertEqual(draw(table_of([column()], [row()], [["abc"]]), ((0, 4), (0, 2)))[1], "|abc|")


class ReadTest(unittest.TestCase):
    def test_the_least_box(self):
        self.assertEqual(read_drawing(("+-+", "|a|", "+-+")), [(0, 0, 2, 2, "a")])
        self.assertEqual(read_drawing(["+-+", "| |", "+-+"]), [(0, 0, 2, 2, "")])

    def test_boxes_by_top_then_by_left(self):
        self.assertEqual(read_drawing((
            "+------------+----+",
            "|Prices today| of |",
            "+-----+------+----+",
            "|red  |    12| an |",
            "|paper+------+ell |",
            "|     |     7|    |",
            "+-----+------+----+",
        )), [(0, 0, 13, 2, "Prices today"), (13, 0, 18, 2, "of"), (0, 2, 6, 6, "red paper"),
             (6, 2, 13, 4, "12"), (13, 2, 18, 6, "an ell"), (6, 4, 13, 6, "7")])

    def test_words_are_read_line_by_line_with_single_spaces(self):
        self.assertEqual(read_drawing(("+-------+", "|  a  bc|", "|       |", "| d   e |", "+-------+")),
                         [(0, 0, 8, 4, "a bc d e")])

    def test_words_end_with_their_line(self):
        self.assertEqual(read_drawing(("+--+", "|ab|", "|cd|", "+--+")), [(0, 0, 3, 3, "ab cd")])

    def test_words_may_have_all_characters_of_words(self):
        for text in ("ABCDEFGHIJKLMNOPQRSTUVWXYZ", "abcdefghijklmnopqrstuvwxyz", "0123456789", ".,:;!?'()/"):
            line = "-" * len(text)
            self.assertEqual(read_drawing((f"+{line}+", f"|{text}|", f"+{line}+")), [(0, 0, len(text) + 1, 2, text)])

    def test_words_may_have_all_other_characters(self):
        self.assertEqual(read_drawing(("+-----+", "|#_ \t*|", "+-----+")), [(0, 0, 6, 2, "#_ \t*")])
        self.assertEqual(read_drawing(("+---+", "|\t\n\r|", "+---+")), [(0, 0, 4, 2, "\t\n\r")])

    def test_boxes_that_touch_without_a_common_border(self):
        self.assertEqual(read_drawing(("+-++-+", "|a||b|", "+-++-+")), [(0, 0, 2, 2, "a"), (3, 0, 5, 2, "b")])
        self.assertEqual(read_drawing(("+-+", "|a|", "+-+", "+-+", "|b|", "+-+")),
                         [(0, 0, 2, 2, "a"), (0, 3, 2, 5, "b")])

    def test_no_boxes(self):
        self.assertEqual(read_drawing(("",)), [])
        self.assertEqual(read_drawing(("", "")), [])
        self.assertIsNone(read_drawing((" ",)))
        self.assertIsNone(read_drawing(("a",)))
        self.assertIsNone(read_drawing(("  ", "  ")))

    def test_a_plus_that_is_no_corner(self):
        self.assertIsNone(read_drawing(("+-+-+", "|   |", "+---+")))
        self.assertIsNone(read_drawing(("+--+", "|  |", "+  |", "|  |", "+--+")))
        self.assertIsNone(read_drawing(("+",)))
        self.assertIsNone(read_drawing(("+++", "|a|", "+-+")))
        self.assertIsNone(read_drawing(("+-+", "+a|", "+-+")))
        self.assertIsNone(read_drawing(("+---+", "| + |", "+---+")))

    def test_a_border_that_belongs_to_no_box(self):
        self.assertIsNone(read_drawing(("+-+-", "|a| ", "+-+ ")))
        self.assertIsNone(read_drawing(("+-+|", "|a||", "+-+|")))
        self.assertIsNone(read_drawing(("+---+", "| - |", "+---+")))
        self.assertIsNone(read_drawing(("+---+", "| | |", "+---+")))
        self.assertIsNone(read_drawing(("---",)))
        self.assertIsNone(read_drawing(("+-+", "|a|", "+-+", "---")))

    def test_borders_with_other_characters(self):
        for place in ((1, 0), (0, 1), (2, 1), (1, 2)):
            for other in " a-|+":
                lines = [list(line) for line in ("+-+", "|b|", "+-+")]
                if lines[place[1]][place[0]] == other:
                    continue
                lines[place[1]][place[0]] = other
                self.assertIsNone(read_drawing(["".join(line) for line in lines]), (place, other))

    def test_corners_with_other_characters(self):
        for x, y in itertools.product((0, 2), (0, 2)):
            for other in " a-|":
                lines = [list(line) for line in ("+-+", "|b|", "+-+")]
                lines[y][x] = other
                self.assertIsNone(read_drawing(["".join(line) for line in lines]))

    def test_a_place_inside_of_no_box(self):
        self.assertIsNone(read_drawing(("+-+ ", "|a| ", "+-+ ")))
        self.assertIsNone(read_drawing(("+-+", "|a|", "+-+", "   ")))
        self.assertIsNone(read_drawing(("+-+ +-+", "|a| |b|", "+-+ +-+")))
        self.assertIsNone(read_drawing(("+-+a", "|a|a", "+-+a")))

    def test_boxes_in_and_over_one_another(self):
        self.assertIsNone(read_drawing(("+-----+", "| +-+ |", "| |a| |", "| +-+ |", "+-----+")))
        self.assertIsNone(read_drawing(
            ("+-----+", "|     |", "| +-+ |", "| |a| |", "| +-+ |", "|     |", "+-----+")))
        self.assertIsNone(read_drawing(("+-----+", "|     |", "|   - |", "|     |", "+-----+")))
        self.assertIsNone(read_drawing(("+---+  ", "|   |  ", "| +-+-+", "| | | |", "+-+-+ |", "  |   |", "  +---+")))
        self.assertIsNone(read_drawing(("+-+-+", "| |a|", "| +-+", "|   |", "+---+")))

    def test_boxes_that_are_too_small(self):
        self.assertIsNone(read_drawing(("++", "++")))
        self.assertIsNone(read_drawing(("+-+", "+-+")))
        self.assertIsNone(read_drawing(("++", "||", "++")))
        self.assertIsNone(read_drawing(("+-+", "|a|")))

    def test_a_missing_side(self):
        self.assertIsNone(read_drawing(("+-+", "|a ", "+-+")))
        self.assertIsNone(read_drawing(("+-+", "|a|", "   ")))
        self.assertIsNone(read_drawing(("| |", "|a|", "+-+")))

    def test_lines_stay_as_they_are(self):
        lines = ["+-+", "|a|", "+-+"]
        read_drawing(lines).append(None)
        self.assertEqual(lines, ["+-+", "|a|", "+-+"])
        self.assertEqual(read_drawing(lines), [(0, 0, 2, 2, "a")])

    def test_what_is_drawn_is_read(self):
        for seed in range(250):
            table = random_table(seed, 1 + seed % 4, 1 + seed // 4 % 4)
            layout = lowest(table, 2001)
            if layout is not None:
                across, down = layout
                self.assertEqual(read_drawing(draw(table, layout)),
                                 [(across[c], down[r], across[c + wide], down[r + high], " ".join(words))
                                  for r, c, high, wide, words in table[2]])

    def test_small_lines_against_all_rectangles(self):
        drawings = 0
        for width, height in ((3, 3), (3, 4), (4, 3)):
            inner = [(x, y) for y in range(height) for x in range(width)]
            for seed in range(1500):
                rng = random.Random(seed)
                lines = [["+" if x in (0, width - 1) and y in (0, height - 1) else
                          "-" if y in (0, height - 1) else "|" if x in (0, width - 1) else " "
                          for x in range(width)] for y in range(height)]
                for x, y in rng.sample(inner, rng.randint(0, 3)):
                    lines[y][x] = rng.choice("+-| a")
                texts = ["".join(line) for line in lines]
                self.assertEqual(read_drawing(texts), plainly_read(texts), texts)
                drawings += read_drawing(texts) is not None
        self.assertGreater(drawings, 500)

    def test_spoiled_drawings_against_all_rectangles(self):
        for seed in range(150):
            rng = random.Random(seed)
            table = random_table(seed, 1 + seed % 3, 1 + seed // 4 % 3, 2, 2)
            layout = lowest(table, 14)
            if layout is None:
                continue
            lines = [list(line) for line in draw(table, (layout[0], row_lines_for(table, layout[0])))]
            for _ in range(rng.randint(0, 2)):
                y = rng.randrange(len(lines))
                lines[y][rng.randrange(len(lines[y]))] = rng.choice("+-| a")
            texts = tuple("".join(line) for line in lines)
            self.assertEqual(read_drawing(texts), plainly_read(texts), texts)


if __name__ == "__main__":
    unittest.main()
