"""Imposition: point 29, with the faces of points 24 and 28."""

import random
import unittest

from boundbook.errors import BookError, Refused
from boundbook.imposition import faces, impose, read_prints
from boundbook.plans import leaf_order, sheets_of
from paper import carried_out, marked_sheet, random_plan

FOLDED = [("sheet", 1, 2), ("fold", "left", 1, "over")]
TUMBLED = [("sheet", 2, 1), ("fold", "top", 1, "over")]
TWO_SHEETS = [("sheet", 1, 2), ("sheet", 2, 1), ("fold", "bottom", 1, "under"), ("take", 0),
              ("stack", "right", 1, "over"), ("pile", 2)]


def up(*pages):
    return tuple((page, False) for page in pages)


def down(*pages):
    return tuple((page, True) for page in pages)


def leaves_of(plan):
    return sum(rows * columns for rows, columns in sheets_of(plan))


def random_prints(rng, plan, pages=10000):
    return [tuple(tuple(tuple((rng.randrange(pages), rng.random() < 0.5) for _ in range(columns))
                        for _ in range(rows)) for _ in range(2)) for rows, columns in sheets_of(plan)]


class FacesTest(unittest.TestCase):
    def test_one_panel(self):
        self.assertEqual(faces([("sheet", 1, 1)]), [(0, "front", 0, 0, False), (0, "back", 0, 0, False)])
        self.assertEqual(faces([("sheet", 1, 1), ("turn", "vertical")]),
                         [(0, "back", 0, 0, False), (0, "front", 0, 0, False)])
        self.assertEqual(faces([("sheet", 1, 1), ("turn", "horizontal")]),
                         [(0, "back", 0, 0, True), (0, "front", 0, 0, True)])
        self.assertEqual(faces([("sheet", 1, 1), ("turn", "both")]),
                         [(0, "front", 0, 0, True), (0, "back", 0, 0, True)])

    def test_folded_sheets(self):
        self.assertEqual(faces(FOLDED), [
            (0, "back", 0, 1, False), (0, "front", 0, 0, False),
            (0, "front", 0, 1, False), (0, "back", 0, 0, False)])
        self.assertEqual(faces(TUMBLED), [
            (0, "back", 0, 0, True), (0, "front", 0, 0, True),
            (0, "front", 1, 0, False), (0, "back", 1, 0, False)])

    def test_two_sheets(self):
        self.assertEqual(faces(TWO_SHEETS), [
            (1, "front", 0, 0, False), (1, "back", 0, 0, False),
            (1, "back", 1, 0, True), (1, "front", 1, 0, True),
            (0, "front", 0, 1, False), (0, "back", 0, 0, False),
            (0, "front", 0, 0, False), (0, "back", 0, 1, False)])

    def test_each_face_is_read_once(self):
        for seed in range(100):
            plan = random_plan(seed)
            found = faces(plan)
            self.assertIsInstance(found, list)
            self.assertEqual(len(found), 2 * len(leaf_order(plan)))
            self.assertEqual(sorted(face[:4] for face in found),
                             sorted((sheet, side, row, column) for sheet, (rows, columns) in enumerate(sheets_of(plan))
                                    for side in ("front", "back") for row in range(rows) for column in range(columns)))


class ImposeTest(unittest.TestCase):
    def test_one_panel(self):
        self.assertEqual(impose([("sheet", 1, 1)], [5, 6]), [((up(5),), (up(6),))])
        self.assertEqual(impose([("sheet", 1, 1), ("turn", "vertical")], [5, 6]), [((up(6),), (up(5),))])
        self.assertEqual(impose([("sheet", 1, 1), ("turn", "horizontal")], [5, 6]), [((down(6),), (down(5),))])
        self.assertEqual(impose([("sheet", 1, 1), ("turn", "both")], [5, 6]), [((down(5),), (down(6),))])

    def test_four_pages(self):
        self.assertEqual(impose(FOLDED, [1, 2, 3, 4]), [((up(2, 3),), (up(4, 1),))])
        self.assertEqual(impose(TUMBLED, [1, 2, 3, 4]), [((down(2), up(3)), (down(1), up(4)))])

    def test_two_sheets(self):
        self.assertEqual(impose(TWO_SHEETS, [1, 2, 3, 4, 5, 6, 7, 8]),
                         [((up(7, 5),), (up(6, 8),)), ((up(1), down(4)), (up(2), down(3)))])

    def test_blank_pages_are_rotated_like_others(self):
        self.assertEqual(impose(TUMBLED, [0, 0, 0, 0]), [((down(0), up(0)), (down(0), up(0)))])
        self.assertEqual(impose(TUMBLED, [9999, 0, 0, 9999]), [((down(0), up(0)), (down(9999), up(9999)))])

    def test_what_is_imposed_is_read_in_order_and_upright(self):
        for seed in range(300):
            plan = random_plan(seed)
            rng = random.Random(seed)
            pages = [rng.choice((0, rng.randrange(10000))) for _ in range(2 * leaves_of(plan))]
            prints = impose(plan, pages)
            self.assertEqual([(len(front), len(front[0])) for front, _ in prints], sheets_of(plan))
            self.assertEqual(read_prints(plan, prints), [(page, False) for page in pages])
            book, = carried_out(plan, prints)
            self.assertEqual(book.marks(), [(page, False) for page in pages], plan)

    def test_prints_are_tuples(self):
        prints = impose(FOLDED, [1, 2, 3, 4])
        self.assertIsInstance(prints, list)
        (front, back), = prints
        for part in (prints[0], front, back, front[0], back[0], front[0][0]):
            self.assertIsInstance(part, tuple)


class ReadTest(unittest.TestCase):
    def test_rotated_marks_and_rotated_faces(self):
        self.assertEqual(read_prints([("sheet", 1, 1)], [((up(1),), (up(2),))]), [(1, False), (2, False)])
        self.assertEqual(read_prints([("sheet", 1, 1)], [((down(1),), (up(2),))]), [(1, True), (2, False)])
        half = [("sheet", 1, 1), ("turn", "both")]
        self.assertEqual(read_prints(half, [((up(1),), (down(2),))]), [(1, True), (2, False)])
        self.assertEqual(read_prints(half, [((down(1),), (up(2),))]), [(1, False), (2, True)])

    def test_four_pages(self):
        self.assertEqual(read_prints(FOLDED, [((up(2, 3),), (up(4, 1),))]), list(up(1, 2, 3, 4)))
        self.assertEqual(read_prints(FOLDED, [((up(1, 2),), (down(3, 4),))]),
                         [(4, True), (1, False), (2, False), (3, True)])
        self.assertEqual(read_prints(TUMBLED, [((up(1), up(2)), (up(3), up(4)))]),
                         [(3, True), (1, True), (2, False), (4, False)])

    def test_blank_pages(self):
        self.assertEqual(read_prints(FOLDED, [((up(0, 0),), (up(0, 0),))]), list(up(0, 0, 0, 0)))

    def test_any_prints_as_with_paper(self):
        for seed in range(300):
            plan = random_plan(seed)
            prints = random_prints(random.Random(seed), plan)
            book, = carried_out(plan, prints)
            self.assertEqual(read_prints(plan, prints), book.marks(), plan)

    def test_no_other_printing_reads_so(self):
        for seed in range(30):
            plan = random_plan(seed, 2, largest=3)
            pages = list(range(1, 2 * leaves_of(plan) + 1))
            prints = impose(plan, pages)
            for sheet, side, row, column, _ in faces(plan):
                for change in (lambda mark: (mark[0], not mark[1]), lambda mark: (0, mark[1])):
                    changed = [[[list(line) for line in part] for part in one] for one in prints]
                    marks = changed[sheet][("front", "back").index(side)][row]
                    marks[column] = change(marks[column])
                    spoiled = [tuple(tuple(tuple(line) for line in part) for part in one) for one in changed]
                    self.assertNotEqual(read_prints(plan, spoiled), [(page, False) for page in pages])


class ErrorsTest(unittest.TestCase):
    def raises(self, what, call, *arguments):
        with self.assertRaises(Refused) as caught:
            call(*arguments)
        self.assertEqual(caught.exception.what, what)
        self.assertIsInstance(caught.exception, BookError)

    def test_wrong_number_of_pages(self):
        for pages in ([], [1, 2], [1, 2, 3], [1, 2, 3, 4, 5], [1] * 8):
            self.raises("wrong number of pages", impose, FOLDED, pages)

    def test_prints_differ_from_the_sheets(self):
        right, other = marked_sheet(0, 1, 2), marked_sheet(0, 2, 1)
        self.assertEqual(len(read_prints(FOLDED, [right])), 4)
        for prints in ([other], [right, right], [marked_sheet(0, 1, 1)], [marked_sheet(0, 1, 3)],
                       [marked_sheet(0, 2, 2)], [marked_sheet(0, 4, 1)], [right, other]):
            self.raises("prints differ from the sheets", read_prints, FOLDED, prints)
        self.assertEqual(len(read_prints(TWO_SHEETS, [right, other])), 8)
        for prints in ([other, right], [right], [right, right], [right, other, other]):
            self.raises("prints differ from the sheets", read_prints, TWO_SHEETS, prints)

    def test_errors_of_plans(self):
        for plan, what in (
            ([("fold", "left", 1, "over"), ("sheet", 8, 8), ("sheet", 1, 1)], "too many panels"),
            ([("sheet", 1, 2), ("fold", "left", 2, "over")], "plan fails"),
            ([("sheet", 1, 2), ("sheet", 1, 1), ("pile", 2)], "plan fails"),
            ([("sheet", 1, 2)], "plan is not complete"),
            ([], "plan is not complete"),
        ):
            self.raises(what, faces, plan)
            self.raises(what, impose, plan, [1, 2, 3, 4])
            self.raises(what, impose, plan, [])
            self.raises(what, read_prints, plan, [marked_sheet(0, 1, 2)])
            self.raises(what, read_prints, plan, [marked_sheet(0, 3, 3)])


class ChangesTest(unittest.TestCase):
    def test_arguments_stay_and_answers_may_be_changed(self):
        plan, pages = list(FOLDED), [1, 2, 3, 4]
        prints = impose(plan, pages)
        kept = list(prints)
        read_prints(plan, prints).clear()
        faces(plan).clear()
        self.assertEqual((plan, pages, prints), (FOLDED, [1, 2, 3, 4], kept))
        prints.clear()
        self.assertEqual(impose(plan, pages), kept)
        self.assertEqual(read_prints(plan, kept), list(up(1, 2, 3, 4)))
        self.assertEqual(len(faces(plan)), 4)


if __name__ == "__main__":
    unittest.main()
