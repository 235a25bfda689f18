"""Finishing: points 32, 33 and 34."""

import itertools
import random
import unittest

from boundbook.errors import BookError, Refused
from boundbook.finishing import cheapest_moves, finishing_order, halving, least_moves
from boundbook.imposition import faces, impose, read_prints
from boundbook.plans import is_complete, leaf_order, sheets_of
from paper import EDGES, WAYS, finishing, marked_sheet, printed_paper, random_plan

# The halvings of the numbers from 1 to 8, as point 32 tells them.
HALVES = {1: [], 2: [1], 3: [1, 1], 4: [2, 1], 5: [2, 1, 1], 6: [3, 1, 1], 7: [3, 2, 1], 8: [4, 2, 1]}
SMALL_SIZES = ((1, 1), (1, 2), (2, 1), (1, 3), (3, 1), (2, 2), (1, 4), (4, 1), (2, 3), (3, 2))


def up(*pages):
    return tuple((page, False) for page in pages)


def down(*pages):
    return tuple((page, True) for page in pages)


def moves_in_order(size):
    """All moves with lines inside of a packet of this size, in the order of point 32."""
    return [(word, edge, line, way) for word in ("fold", "stack") for edge in EDGES
            for line in range(1, size[1 if edge in ("left", "right") else 0]) for way in WAYS]


def move_key(move):
    word, edge, line, way = move
    return (("fold", "stack").index(word), EDGES.index(edge), line, WAYS.index(way))


def moved(paper, move):
    word, *rest = move
    return paper.folded(*rest) if word == "fold" else paper.stacked(*rest)


def all_rows_of_moves(paper):
    """All rows of moves that finish the paper, each with the marks that are read then."""
    if paper.size() == (1, 1):
        yield (), paper.marks()
        return
    for move in moves_in_order(paper.size()):
        for row, marks in all_rows_of_moves(moved(paper, move)):
            yield (move,) + row, marks


# For each small size all rows of moves; what is read is told by marks that are all different.
TREES = {size: list(all_rows_of_moves(printed_paper(0, marked_sheet(0, *size)))) for size in SMALL_SIZES}


def plain_search(sheet, pages, fold_cost, stack_cost):
    """The cheapest moves, after looking at all rows of moves of a sheet of a small size."""
    size = (len(sheet[0]), len(sheet[0][0]))
    marks = {}
    for side, names in zip(sheet, marked_sheet(0, *size)):
        for row, name_row in zip(side, names):
            marks.update({name[0]: mark for mark, name in zip(row, name_row)})
    found = []
    for row, names in TREES[size]:
        read = [(marks[name][0], marks[name][1] != is_rotated) for name, is_rotated in names]
        if read == [(page, False) for page in pages]:
            cost = sum(fold_cost if move[0] == "fold" else stack_cost for move in row)
            found.append((cost, [move_key(move) for move in row], list(row)))
    if not found:
        return None
    cost, _, row = min(found)
    return (row, cost)


class LeastMovesTest(unittest.TestCase):
    def test_powers_of_two_and_one_beside_them(self):
        self.assertEqual([least_moves(1, columns) for columns in range(1, 9)], [0, 1, 2, 2, 3, 3, 3, 3])
        self.assertEqual([least_moves(rows, 1) for rows in range(1, 9)], [0, 1, 2, 2, 3, 3, 3, 3])
        self.assertEqual(least_moves(8, 8), 6)
        self.assertEqual(least_moves(3, 5), 5)
        self.assertEqual([least_moves(1, n) for n in (9, 16, 17)], [4, 4, 5])

    def test_all_sizes(self):
        for rows, columns in itertools.product(range(1, 9), repeat=2):
            needed = [next(k for k in range(9) if 2 ** k >= n) for n in (rows, columns)]
            self.assertEqual(least_moves(rows, columns), sum(needed))

    def test_no_fewer_moves_finish_a_sheet(self):
        for size, tree in TREES.items():
            self.assertEqual(min(len(row) for row, _ in tree), least_moves(*size), size)


class HalvingTest(unittest.TestCase):
    def test_each_size(self):
        for rows, columns in itertools.product(range(1, 9), repeat=2):
            folds = halving(rows, columns)
            self.assertEqual(folds, [("fold", "left", line, "over") for line in HALVES[columns]]
                             + [("fold", "top", line, "over") for line in HALVES[rows]])
            self.assertEqual(len(folds), least_moves(rows, columns))
            self.assertIs(is_complete([("sheet", rows, columns)] + folds), True)

    def test_the_answer_may_be_changed(self):
        halving(2, 2).clear()
        self.assertEqual(halving(2, 2), [("fold", "left", 1, "over"), ("fold", "top", 1, "over")])


class FinishingOrderTest(unittest.TestCase):
    def raises(self, what, prints, pages):
        with self.assertRaises(Refused) as caught:
            finishing_order(prints, pages)
        self.assertEqual(caught.exception.what, what)
        self.assertIsInstance(caught.exception, BookError)

    def test_a_panel_in_each_of_its_ways(self):
        for front, back, mirrored, turned in (
            (up(1), up(2), False, False), (up(2), up(1), True, False),
            (down(1), down(2), True, True), (down(2), down(1), False, True),
        ):
            self.assertEqual(finishing_order([((front,), (back,))], [1, 2]), [(0, 0, 0, mirrored, turned)])

    def test_marks_of_which_one_is_rotated(self):
        for front, back in ((up(1), down(2)), (down(1), up(2)), (up(2), down(1)), (down(2), up(1))):
            self.assertIsNone(finishing_order([((front,), (back,))], [1, 2]))

    def test_the_front_is_up_if_both_ways_are_right(self):
        self.assertEqual(finishing_order([((up(7),), (up(7),))], [7, 7]), [(0, 0, 0, False, False)])
        self.assertEqual(finishing_order([((down(0),), (down(0),))], [0, 0]), [(0, 0, 0, True, True)])

    def test_the_page_behind_is_in_the_mirrored_column(self):
        sheet = ((up(1, 3, 5), up(7, 9, 11)), (up(6, 4, 2), up(12, 10, 8)))
        self.assertEqual(finishing_order([sheet], list(range(1, 13))),
                         [(0, row, column, False, False) for row in range(2) for column in range(3)])
        self.assertIsNone(finishing_order([((up(1, 3),), (up(2, 4),))], [1, 2, 3, 4]))

    def test_pages_that_no_panel_carries(self):
        sheet = ((up(1, 3),), (up(4, 2),))
        self.assertEqual(len(finishing_order([sheet], [3, 4, 1, 2])), 2)
        for pages in ([1, 3, 2, 4], [1, 2, 3, 5], [1, 2, 1, 2], [5, 2, 3, 4], [1, 2, 5, 4]):
            self.assertIsNone(finishing_order([sheet], pages))

    def test_either_way_of_a_panel(self):
        sheet = ((up(1, 3),), (up(4, 2),))
        self.assertEqual(finishing_order([sheet], [4, 3, 2, 1]), [(0, 0, 1, True, False), (0, 0, 0, True, False)])

    def test_of_panels_with_the_same_pages_the_first_one(self):
        same = ((up(1, 1), up(1, 1)), (up(2, 2), up(2, 2)))
        single = ((up(2),), (up(1),))
        self.assertEqual(finishing_order([same, single], [1, 2] * 5), [
            (0, 0, 0, False, False), (0, 0, 1, False, False), (0, 1, 0, False, False), (0, 1, 1, False, False),
            (1, 0, 0, True, False)])
        self.assertEqual(finishing_order([single, same], [1, 2] * 5), [
            (0, 0, 0, True, False), (1, 0, 0, False, False), (1, 0, 1, False, False), (1, 1, 0, False, False),
            (1, 1, 1, False, False)])

    def test_a_panel_is_chosen_once(self):
        sheet = ((up(1, 1),), (up(2, 2),))
        self.assertEqual(finishing_order([sheet], [1, 2, 2, 1]), [(0, 0, 0, False, False), (0, 0, 1, True, False)])

    def test_what_was_imposed(self):
        for seed in range(200):
            plan = random_plan(seed)
            count = 2 * sum(rows * columns for rows, columns in sheets_of(plan))
            pages = random.Random(seed).sample(range(10000), count)
            self.assertEqual(finishing_order(impose(plan, pages), pages), list(leaf_order(plan)))

    def test_pages_that_stand_several_times_are_read_upright(self):
        for seed in range(200):
            plan, rng = random_plan(seed), random.Random(seed)
            count = 2 * sum(rows * columns for rows, columns in sheets_of(plan))
            pages = [rng.randrange(3) for _ in range(count)]
            prints = impose(plan, pages)
            order = finishing_order(prints, pages)
            self.assertEqual(sorted(layer[:3] for layer in order), sorted(leaf[:3] for leaf in leaf_order(plan)))
            for place, (sheet, row, column, mirrored, turned) in enumerate(order):
                front, back = prints[sheet]
                marks = [front[row][column], back[row][-1 - column]]
                if mirrored != turned:
                    marks.reverse()
                self.assertEqual(marks, [(pages[2 * place], turned), (pages[2 * place + 1], turned)])

    def test_64_panels_and_65(self):
        large = marked_sheet(0, 8, 8)
        pages = [large[side][row][column if side == 0 else 7 - column][0]
                 for row in range(8) for column in range(8) for side in range(2)]
        self.assertEqual(len(finishing_order([large], pages)), 64)
        self.raises("too many panels", [large, marked_sheet(1, 1, 1)], pages + [1, 2])
        self.raises("too many panels", [marked_sheet(0, 5, 8), marked_sheet(1, 5, 5)], [0] * 130)

    def test_wrong_number_of_pages(self):
        for pages in ([], [1], [1, 2], [1, 2, 3], [1, 2, 3, 4, 5], [1, 2, 3, 4, 5, 6]):
            self.raises("wrong number of pages", [marked_sheet(0, 1, 2)], pages)
        self.raises("wrong number of pages", [marked_sheet(0, 1, 2), marked_sheet(1, 1, 1)], [1, 2, 3, 4])

    def test_too_many_panels_is_told_first(self):
        self.raises("too many panels", [marked_sheet(0, 8, 8), marked_sheet(1, 1, 1)], [1, 2, 3])

    def test_arguments_stay_and_answers_may_be_changed(self):
        prints, pages = [((up(1),), (up(2),))], [1, 2]
        finishing_order(prints, pages).clear()
        self.assertEqual((prints, pages), ([((up(1),), (up(2),))], [1, 2]))
        self.assertEqual(finishing_order(prints, pages), [(0, 0, 0, False, False)])


class CheapestMovesTest(unittest.TestCase):
    def raises(self, what, sheet, pages):
        with self.assertRaises(Refused) as caught:
            cheapest_moves(sheet, pages, 1, 1)
        self.assertEqual(caught.exception.what, what)
        self.assertIsInstance(caught.exception, BookError)

    def test_one_panel_needs_no_moves(self):
        self.assertEqual(cheapest_moves(((up(1),), (up(2),)), [1, 2], 3, 5), ([], 0))
        self.assertIsNone(cheapest_moves(((up(2),), (up(1),)), [1, 2], 3, 5))
        self.assertIsNone(cheapest_moves(((down(1),), (down(2),)), [1, 2], 3, 5))

    def test_a_sheet_that_is_folded_once(self):
        sheet, = impose([("sheet", 1, 2), ("fold", "left", 1, "over")], [1, 2, 3, 4])
        self.assertEqual(cheapest_moves(sheet, [1, 2, 3, 4], 3, 5), ([("fold", "left", 1, "over")], 3))
        self.assertIsNone(cheapest_moves(sheet, [1, 2, 3, 5], 3, 5))
        self.assertIsNone(cheapest_moves(sheet, [1, 2, 4, 3], 3, 5))
        self.assertEqual(cheapest_moves(sheet, [3, 4, 1, 2], 3, 5), ([("fold", "left", 1, "under")], 3))
        self.assertEqual(cheapest_moves(sheet, [2, 1, 4, 3], 3, 5), ([("fold", "right", 1, "under")], 3))

    def test_a_sheet_that_has_to_be_cut(self):
        sheet, = impose([("sheet", 2, 1), ("stack", "bottom", 1, "over")], [1, 2, 3, 4])
        self.assertEqual(cheapest_moves(sheet, [1, 2, 3, 4], 1, 7), ([("stack", "top", 1, "under")], 7))

    def test_the_first_of_several_with_the_same_cost(self):
        sheet = ((up(0, 0),), (up(0, 0),))
        self.assertEqual(cheapest_moves(sheet, [0] * 4, 2, 2), ([("fold", "left", 1, "over")], 2))
        self.assertEqual(cheapest_moves(sheet, [0] * 4, 3, 2), ([("stack", "left", 1, "over")], 2))
        self.assertEqual(cheapest_moves(((up(0), up(0)), (up(0), up(0))), [0] * 4, 1, 1),
                         ([("stack", "top", 1, "over")], 1))
        row = ((up(0, 0, 0, 0),), (up(0, 0, 0, 0),))
        self.assertEqual(cheapest_moves(row, [0] * 8, 1, 1),
                         ([("fold", "left", 2, "over"), ("fold", "left", 1, "over")], 2))
        self.assertEqual(cheapest_moves(row, [0] * 8, 5, 1),
                         ([("stack", "left", 2, "over"), ("stack", "left", 1, "over")], 2))

    def test_strips_of_three_in_each_order(self):
        found_any = 0
        for names in itertools.permutations(range(3)):
            pages = [page for name in names for page in (2 * name + 1, 2 * name + 2)]
            sheet = ((up(1, 3, 5),), (up(6, 4, 2),))
            for fold_cost, stack_cost in ((1, 1), (1, 2), (2, 1), (3, 2)):
                found = cheapest_moves(sheet, pages, fold_cost, stack_cost)
                self.assertEqual(found, plain_search(sheet, pages, fold_cost, stack_cost))
                found_any += found is not None
        self.assertGreater(found_any, 0)

    def test_small_sheets_as_by_plain_search(self):
        with_moves = without = 0
        for size in SMALL_SIZES:
            for seed in range(40):
                rng = random.Random(seed)
                pages = [rng.randrange(rng.choice((1, 2, 20))) for _ in range(2 * size[0] * size[1])]
                sheet, = impose([("sheet",) + size] + finishing(rng, size, ("fold", "stack")), pages)
                if rng.random() < 0.3:
                    rng.shuffle(pages)
                costs = rng.choice(((1, 1), (1, 2), (2, 1), (1, 3), (3, 1), (2, 3), (5, 4)))
                found = cheapest_moves(sheet, pages, *costs)
                self.assertEqual(found, plain_search(sheet, pages, *costs), (sheet, pages, costs))
                with_moves += found is not None
                without += found is None
        self.assertGreater(with_moves, 250)
        self.assertGreater(without, 30)

    def test_six_panels_are_read_as_the_pages(self):
        for size in ((1, 6), (6, 1), (2, 3), (3, 2), (1, 5)):
            for seed in range(12):
                rng = random.Random(seed)
                pages = rng.sample(range(10000), 2 * size[0] * size[1])
                wanted = finishing(rng, size, ("fold", "stack"))
                sheet, = impose([("sheet",) + size] + wanted, pages)
                moves, cost = cheapest_moves(sheet, pages, 2, 3)
                self.assertIsInstance(moves, list)
                self.assertEqual(read_prints([("sheet",) + size] + moves, [sheet]), [(page, False) for page in pages])
                self.assertEqual(cost, sum(2 if move[0] == "fold" else 3 for move in moves))
                self.assertLessEqual(cost, sum(2 if move[0] == "fold" else 3 for move in wanted))

    def test_halving_folds_are_found(self):
        for size in SMALL_SIZES + ((1, 6), (6, 1)):
            plan = [("sheet",) + size] + halving(*size)
            pages = list(range(1, 2 * size[0] * size[1] + 1))
            sheet, = impose(plan, pages)
            moves, cost = cheapest_moves(sheet, pages, 1, 100)
            self.assertEqual((len(faces(plan)), cost), (len(pages), least_moves(*size)))

    def test_sheet_is_too_large(self):
        for size in ((1, 7), (7, 1), (2, 4), (4, 2), (3, 3), (8, 8)):
            self.raises("sheet is too large", marked_sheet(0, *size), [0] * (2 * size[0] * size[1]))

    def test_wrong_number_of_pages(self):
        for pages in ([], [1], [1, 2, 3], [1, 2, 3, 4, 5], [1] * 6):
            self.raises("wrong number of pages", marked_sheet(0, 1, 2), pages)
        self.raises("wrong number of pages", marked_sheet(0, 2, 3), [0] * 10)

    def test_too_large_is_told_first(self):
        self.raises("sheet is too large", marked_sheet(0, 1, 7), [1, 2, 3])

    def test_arguments_stay_and_answers_may_be_changed(self):
        sheet, = impose([("sheet", 1, 2), ("fold", "left", 1, "over")], [1, 2, 3, 4])
        pages = [1, 2, 3, 4]
        cheapest_moves(sheet, pages, 1, 1)[0].clear()
        self.assertEqual(pages, [1, 2, 3, 4])
        self.assertEqual(cheapest_moves(sheet, pages, 1, 1), ([("fold", "left", 1, "over")], 1))


if __name__ == "__main__":
    unittest.main()
