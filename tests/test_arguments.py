"""Arguments and answers: points 3 and 4."""

import unittest

from boundbook.columns import column_lines_for
from boundbook.drawing import draw, read_drawing
from boundbook.errors import Refused
from boundbook.fewest import fewest_pages
from boundbook.manuscripts import read_manuscript, write_manuscript
from boundbook.packets import cut, fold, pile, sheet_packet, stack, turn
from boundbook.pages import page_layout, page_table, paginate
from boundbook.plans import evaluate, is_complete, leaf_order, sheets_of
from boundbook.rows import row_lines_for, violations
from boundbook.sizes import lowest, narrowest_layout, sizes
from boundbook.tables import breakable_rows, check_table
from boundbook.words import wrap
from support import column, head, row, table_of

TABLE = table_of([column(), column()], [head(), row(), row()], [["a", "b"], ["c d", "e"], ["f", "gg h"]])
LAYOUT = lowest(TABLE, 2001)
PLAN = [("sheet", 2, 2), ("fold", "left", 1, "over"), ("stack", "top", 1, "under"),
        ("sheet", 1, 1), ("take", 0), ("turn", "both"), ("pile", 2)]


class KindsTest(unittest.TestCase):
    def test_layouts_are_tuples_of_tuples(self):
        for layout in (lowest(TABLE, 20), narrowest_layout(TABLE, 20), fewest_pages(TABLE, 20, 20)[0],
                       page_layout(TABLE, LAYOUT, 2, 3)):
            self.assertIsInstance(layout, tuple)
            self.assertEqual([type(lines) for lines in layout], [tuple, tuple])
            self.assertEqual(len(layout), 2)
        self.assertIsInstance(column_lines_for(TABLE, (1, 1, 1)), tuple)
        self.assertIsInstance(row_lines_for(TABLE, LAYOUT[0]), tuple)

    def test_lists_have_tuples_inside(self):
        for answer in (wrap(("a", "b"), 1), sizes(TABLE), paginate(TABLE, LAYOUT[1], 20),
                       violations(TABLE, ((0, 2, 4), (0, 2, 4, 6))), fewest_pages(TABLE, 20, 20)[1]):
            self.assertIsInstance(answer, list)
            self.assertTrue(answer)
            self.assertTrue(all(isinstance(item, tuple) for item in answer))
        self.assertIsInstance(fewest_pages(TABLE, 20, 20), tuple)

    def test_drawings_are_tuples_and_boxes_a_list_of_tuples(self):
        self.assertIsInstance(draw(TABLE, LAYOUT), tuple)
        boxes = read_drawing(list(draw(TABLE, LAYOUT)))
        self.assertIsInstance(boxes, list)
        self.assertEqual([type(box) for box in boxes], [tuple] * 6)

    def test_packets_are_tuples_of_tuples_of_tuples_of_layers(self):
        sheet = sheet_packet(0, 2, 3)
        packets = [sheet, pile([sheet, sheet]), *cut(sheet, "left", 1), *cut(sheet, "bottom", 1)]
        packets += [turn(sheet, axis) for axis in ("vertical", "horizontal", "both")]
        for edge in ("left", "right", "top", "bottom"):
            packets += [fold(sheet, edge, 1, "over"), stack(sheet, edge, 1, "under")]
        for packet in packets:
            cells = [cell for row in packet for cell in row]
            layers = [layer for cell in cells for layer in cell]
            self.assertEqual({type(part) for part in [packet, *packet, *cells, *layers]}, {tuple})

    def test_plans(self):
        self.assertEqual([type(size) for size in sheets_of(PLAN)], [tuple, tuple])
        self.assertIsInstance(evaluate(PLAN), list)
        self.assertIsInstance(leaf_order(PLAN), tuple)
        self.assertIs(is_complete(PLAN), True)

    def test_tables_of_pages_are_tuples(self):
        page = page_table(TABLE, 2, 3)
        self.assertEqual([type(part) for part in (page,) + page], [tuple] * 4)


class NothingIsChangedTest(unittest.TestCase):
    def test_lists_that_are_returned_may_be_changed(self):
        calls = (
            lambda: wrap(("a", "b"), 1),
            lambda: breakable_rows(TABLE),
            lambda: violations(TABLE, ((0, 2, 4), (0, 2, 4, 6))),
            lambda: sizes(TABLE),
            lambda: paginate(TABLE, LAYOUT[1], 5),
            lambda: fewest_pages(TABLE, 20, 5)[1],
            lambda: read_drawing(draw(TABLE, LAYOUT)),
            lambda: sheets_of(PLAN),
            lambda: evaluate(PLAN),
        )
        for call in calls:
            answer = call()
            kept = list(answer)
            answer.clear()
            self.assertTrue(kept)
            self.assertEqual(call(), kept)

    def test_lists_that_are_passed_stay_as_they_are(self):
        heights, across, down = [1, 1, 1], list(LAYOUT[0]), list(LAYOUT[1])
        column_lines_for(TABLE, heights)
        row_lines_for(TABLE, across)
        violations(TABLE, (across, down))
        paginate(TABLE, down, 5)
        self.assertEqual((heights, across, down), ([1, 1, 1], list(LAYOUT[0]), list(LAYOUT[1])))

    def test_lists_of_lines_plans_packets_and_tables_stay_as_they_are(self):
        lines, plan, tables = list(draw(TABLE, LAYOUT)), list(PLAN), [TABLE, TABLE]
        packets = [sheet_packet(0, 1, 2), sheet_packet(1, 1, 2)]
        read_drawing(lines)
        for call in (sheets_of, evaluate, is_complete, leaf_order):
            call(plan)
        pile(packets)
        self.assertEqual(read_manuscript(write_manuscript(tables)), (TABLE, TABLE))
        self.assertEqual((lines, plan, tables), (list(draw(TABLE, LAYOUT)), PLAN, [TABLE, TABLE]))
        self.assertEqual(packets, [sheet_packet(0, 1, 2), sheet_packet(1, 1, 2)])

    def test_a_refused_table_can_be_checked_again(self):
        faulty = (TABLE[0], TABLE[1], TABLE[2][1:])
        for _ in range(2):
            with self.assertRaises(Refused) as caught:
                check_table(faulty)
            self.assertEqual(caught.exception.what, "place is not covered once")
        self.assertIsNone(check_table(TABLE))


if __name__ == "__main__":
    unittest.main()
