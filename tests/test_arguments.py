"""Arguments and answers: points 3 and 4."""

import unittest

from boundbook.columns import column_lines_for
from boundbook.errors import Refused
from boundbook.fewest import fewest_pages
from boundbook.pages import page_layout, page_table, paginate
from boundbook.rows import row_lines_for, violations
from boundbook.sizes import lowest, narrowest_layout, sizes
from boundbook.tables import breakable_rows, check_table
from boundbook.words import wrap
from support import column, head, row, table_of

TABLE = table_of([column(), column()], [head(), row(), row()], [["a", "b"], ["c d", "e"], ["f", "gg h"]])
LAYOUT = lowest(TABLE, 2001)


class KindsTest(unittest.TestCase):
    def test_layouts_are_tuples_of_tuples(self):
        for layout in (lowest(TABLE, 20), narrowest_layout(TABLE, 20), fewest_pages(TABLE, 20, 20)[0],
                       page_layout(TABLE, LAYOUT, 2, 3)):
            self.assertIsInstance(layout, tuple)
            self.assertEqual([type(lines) for lines in layout], [tuple, tuple])
            self.assertEqual(len(layout), 2)
        self.assertIsInstance(column_lines_for(TABLE, (1, 1, 1)), tuple)
        self.assertIsInstance(row_lines_for(TABLE, LAYOUT[0]), tuple)

    def test_lists_have_tuples_inside(self):
        for answer in (wrap(("a", "b"), 1), sizes(TABLE), paginate(TABLE, LAYOUT[1], 20),
                       violations(TABLE, ((0, 2, 4), (0, 2, 4, 6))), fewest_pages(TABLE, 20, 20)[1]):
            self.assertIsInstance(answer, list)
            self.assertTrue(answer)
            self.assertTrue(all(isinstance(item, tuple) for item in answer))
        self.assertIsInstance(fewest_pages(TABLE, 20, 20), tuple)

    def test_tables_of_pages_are_tuples(self):
        page = page_table(TABLE, 2, 3)
        self.assertEqual([type(part) for part in (page,) + page], [tuple] * 4)


class NothingIsChangedTest(unittest.TestCase):
    def test_lists_that_are_returned_may_be_changed(self):
        calls = (
            lambda: wrap(("a", "b"), 1),
            lambda: breakable_rows(TABLE),
            lambda: violations(TABLE, ((0, 2, 4), (0, 2, 4, 6))),
            lambda: sizes(TABLE),
            lambda: paginate(TABLE, LAYOUT[1], 5),
            lambda: fewest_pages(TABLE, 20, 5)[1],
        )
        for call in calls:
            answer = call()
            kept = list(answer)
            answer.clear()
            self.assertTrue(kept)
            self.assertEqual(call(), kept)

    def test_lists_that_are_passed_stay_as_they_are(self):
        heights, across, down = [1, 1, 1], list(LAYOUT[0]), list(LAYOUT[1])
        column_lines_for(TABLE, heights)
        row_lines_for(TABLE, across)
        violations(TABLE, (across, down))
        paginate(TABLE, down, 5)
        self.assertEqual((heights, across, down), ([1, 1, 1], list(LAYOUT[0]), list(LAYOUT[1])))

    def test_a_refused_table_can_be_checked_again(self):
        faulty = (TABLE[0], TABLE[1], TABLE[2][1:])
        for _ in range(2):
            with self.assertRaises(Refused) as caught:
                check_table(faulty)
            self.assertEqual(caught.exception.what, "place is not covered once")
        self.assertIsNone(check_table(TABLE))


if __name__ == "__main__":
    unittest.main()
