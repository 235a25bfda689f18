"""Creases, sewing and creep: points 30 and 31."""

import unittest

from boundbook.creases import conjugates, creases, creep, is_sewable
from boundbook.errors import BookError, Refused
from boundbook.finishing import halving
from boundbook.plans import leaf_order
from paper import EDGES, carried_out, marked_sheets, random_plan

SWAPS = {
    "vertical": {"left": "right", "right": "left", "top": "top", "bottom": "bottom"},
    "horizontal": {"left": "left", "right": "right", "top": "bottom", "bottom": "top"},
}


def neighbours_of_a_sheet(number, rows, columns):
    """For each panel its neighbours, by the edge at which they are on the front of the flat sheet."""
    found = {}
    for row in range(rows):
        for column in range(columns):
            around = {"left": (row, column - 1), "right": (row, column + 1),
                      "top": (row - 1, column), "bottom": (row + 1, column)}
            found[(number, row, column)] = {
                edge: (number, r, c) for edge, (r, c) in around.items() if 0 <= r < rows and 0 <= c < columns}
    return found


def turned_panels(paper, step):
    """The panels that a step turns over, and the axes about which it does so."""
    word, *rest = step
    if word == "turn":
        axes = ("vertical", "horizontal") if rest[0] == "both" else (rest[0],)
        return [leaf[0] for leaves in paper.cells.values() for leaf in leaves], axes
    if word == "fold":
        edge, line, _ = rest
        axis = "vertical" if edge in ("left", "right") else "horizontal"
        return [leaf[0] for place, leaves in paper.cells.items() if paper._in_part(place, edge, line)
                for leaf in leaves], (axis,)
    return [], ()


def creases_by_hand(plan):
    """The creases, with the neighbours of each panel followed from step to step."""
    prints = marked_sheets(plan)
    borders = {}
    sheets = 0
    for at, step in enumerate(plan):
        if step[0] == "sheet":
            borders.update(neighbours_of_a_sheet(sheets, step[1], step[2]))
            sheets += 1
            continue
        panels, axes = turned_panels(carried_out(plan[:at], prints)[-1], step)
        for panel in panels:
            for axis in axes:
                borders[panel] = {SWAPS[axis][edge]: other for edge, other in borders[panel].items()}
    book, = carried_out(plan, prints)
    order = [leaf[0] for leaf in book.cells[(0, 0)]]
    found = set()
    for panel, around in borders.items():
        for edge, other in around.items():
            assert borders[other][edge] == panel
            found.add((edge,) + tuple(sorted((order.index(panel), order.index(other)))))
    return sorted(found, key=lambda crease: (EDGES.index(crease[0]),) + crease[1:])


def folded(rows, columns, *folds):
    return [("sheet", rows, columns)] + [("fold",) + fold for fold in folds]


IN_ONE_ANOTHER = [("sheet", 1, 2), ("sheet", 1, 2), ("pile", 2), ("fold", "left", 1, "over")]
BEHIND_ONE_ANOTHER = [("sheet", 1, 2), ("fold", "left", 1, "over"), ("sheet", 1, 2), ("fold", "left", 1, "over"),
                      ("pile", 2)]


class CreasesTest(unittest.TestCase):
    def test_one_panel(self):
        self.assertEqual(creases([("sheet", 1, 1)]), [])
        self.assertEqual(creases([("sheet", 1, 1), ("sheet", 1, 1), ("pile", 2)]), [])

    def test_one_fold_at_each_edge(self):
        for way in ("over", "under"):
            for edge in ("left", "right"):
                self.assertEqual(creases(folded(1, 2, (edge, 1, way))), [(edge, 0, 1)])
            for edge in ("top", "bottom"):
                self.assertEqual(creases(folded(2, 1, (edge, 1, way))), [(edge, 0, 1)])

    def test_turning_moves_the_creases(self):
        for axis, left, top in (("vertical", "right", "top"), ("horizontal", "left", "bottom"),
                                ("both", "right", "bottom")):
            self.assertEqual(creases(folded(1, 2, ("left", 1, "over")) + [("turn", axis)]), [(left, 0, 1)])
            self.assertEqual(creases(folded(2, 1, ("top", 1, "over")) + [("turn", axis)]), [(top, 0, 1)])

    def test_a_zigzag(self):
        self.assertEqual(creases(folded(1, 3, ("left", 1, "over"), ("right", 1, "under"))),
                         [("left", 0, 1), ("right", 1, 2)])

    def test_a_strip_of_four(self):
        self.assertEqual(creases(folded(1, 4, ("left", 2, "over"), ("left", 1, "over"))),
                         [("left", 0, 3), ("left", 1, 2), ("right", 0, 1)])

    def test_folded_both_ways(self):
        self.assertEqual(creases(folded(2, 2, ("left", 1, "over"), ("top", 1, "over"))),
                         [("left", 0, 1), ("left", 2, 3), ("top", 0, 3), ("top", 1, 2)])
        self.assertEqual(creases(folded(2, 2, ("bottom", 1, "under"), ("right", 1, "under"))),
                         [("right", 0, 3), ("right", 1, 2), ("bottom", 0, 1), ("bottom", 2, 3)])

    def test_they_are_in_order_of_edge_then_of_leaves(self):
        plan = folded(3, 3, ("left", 1, "over"), ("right", 1, "under"), ("top", 1, "over"), ("bottom", 1, "under"))
        found = creases(plan)
        self.assertEqual(len(found), 12)
        self.assertEqual({edge for edge, _, _ in found}, set(EDGES))
        self.assertEqual(found, sorted(found, key=lambda crease: (EDGES.index(crease[0]), crease[1], crease[2])))
        self.assertTrue(all(first < second for _, first, second in found))

    def test_several_sheets(self):
        self.assertEqual(creases(IN_ONE_ANOTHER), [("left", 0, 3), ("left", 1, 2)])
        self.assertEqual(creases(BEHIND_ONE_ANOTHER), [("left", 0, 1), ("left", 2, 3)])
        plan = folded(1, 2, ("left", 1, "over")) + [("sheet", 1, 1), ("sheet", 2, 1), ("fold", "top", 1, "over"),
                                                    ("pile", 3)]
        self.assertEqual(creases(plan), [("left", 0, 1), ("top", 3, 4)])

    def test_random_plans_by_hand(self):
        for seed in range(150):
            plan = random_plan(seed, 3, ("fold", "turn"), False)
            found = creases(plan)
            self.assertEqual(found, creases_by_hand(plan), plan)
            self.assertIsInstance(found, list)


class SewingTest(unittest.TestCase):
    def test_one_panel_has_no_conjugate(self):
        self.assertEqual(conjugates([("sheet", 1, 1)]), [None])
        self.assertIs(is_sewable([("sheet", 1, 1)]), False)

    def test_one_fold(self):
        self.assertEqual(conjugates(folded(1, 2, ("left", 1, "over"))), [1, 0])
        self.assertIs(is_sewable(folded(1, 2, ("left", 1, "over"))), True)
        for plan in (folded(1, 2, ("right", 1, "over")), folded(2, 1, ("top", 1, "over")),
                     folded(2, 1, ("bottom", 1, "over"))):
            self.assertEqual(conjugates(plan), [None, None])
            self.assertIs(is_sewable(plan), False)

    def test_folds_that_can_be_sewn(self):
        for plan in (folded(1, 4, ("left", 2, "over"), ("left", 1, "over")),
                     folded(2, 2, ("top", 1, "over"), ("left", 1, "over")), IN_ONE_ANOTHER):
            self.assertEqual(conjugates(plan), [3, 2, 1, 0])
            self.assertIs(is_sewable(plan), True)

    def test_conjugates_in_another_order(self):
        plan = folded(2, 2, ("left", 1, "over"), ("top", 1, "over"))
        self.assertEqual(conjugates(plan), [1, 0, 3, 2])
        self.assertIs(is_sewable(plan), False)
        self.assertEqual(conjugates(BEHIND_ONE_ANOTHER), [1, 0, 3, 2])
        self.assertIs(is_sewable(BEHIND_ONE_ANOTHER), False)

    def test_odd_numbers_of_leaves(self):
        zigzag = folded(1, 3, ("left", 1, "over"), ("right", 1, "under"))
        self.assertEqual(conjugates(zigzag), [1, 0, None])
        self.assertIs(is_sewable(zigzag), False)
        around = [("sheet", 1, 1), ("sheet", 1, 2), ("fold", "left", 1, "over"), ("take", 0), ("pile", 2)]
        self.assertEqual(conjugates(around), [1, 0, None])
        rolled = folded(1, 3, ("right", 1, "over"), ("left", 1, "over"))
        self.assertEqual(conjugates(rolled), [2, None, 0])
        self.assertIs(is_sewable(rolled), False)

    def test_a_leaf_without_conjugate_among_others(self):
        plan = folded(1, 2, ("left", 1, "over")) + [("sheet", 1, 1), ("sheet", 1, 1), ("pile", 3)]
        self.assertEqual(conjugates(plan), [1, 0, None, None])
        self.assertIs(is_sewable(plan), False)

    def test_it_is_sewable_if_first_and_last_are_conjugate_and_so_on(self):
        sewable = 0
        for seed in range(400):
            plan = random_plan(seed, 2, ("fold",), False, 3)
            found = conjugates(plan)
            pairs = {frozenset(crease[1:]) for crease in creases(plan) if crease[0] == "left"}
            for leaf, other in enumerate(found):
                self.assertEqual(other is not None, any(leaf in pair for pair in pairs))
                if other is not None:
                    self.assertIn(frozenset((leaf, other)), pairs)
            wanted = all({leaf, len(found) - 1 - leaf} in pairs for leaf in range(len(found)))
            self.assertIs(is_sewable(plan), wanted, plan)
            sewable += wanted
        self.assertGreater(sewable, 20)


class CreepTest(unittest.TestCase):
    def test_no_creases(self):
        self.assertEqual(creep([("sheet", 1, 1)]), [0])

    def test_folded_once(self):
        self.assertEqual(creep(folded(1, 2, ("left", 1, "over"))), [0, 0])

    def test_creases_around_others(self):
        self.assertEqual(creep(folded(1, 4, ("left", 2, "over"), ("left", 1, "over"))), [0, 1, 1, 0])
        self.assertEqual(creep(IN_ONE_ANOTHER), [0, 1, 1, 0])
        self.assertEqual(creep(BEHIND_ONE_ANOTHER), [0, 0, 0, 0])
        self.assertEqual(creep([("sheet", 1, 2)] * 3 + [("pile", 3), ("fold", "left", 1, "over")]),
                         [0, 1, 2, 2, 1, 0])

    def test_a_leaf_that_is_not_sewn_in_a_crease(self):
        rolled = folded(1, 3, ("right", 1, "over"), ("left", 1, "over"))
        self.assertEqual(creep(rolled), [0, 1, 0])

    def test_only_creases_at_the_spine_count(self):
        for edge in ("right", "top", "bottom"):
            size = (1, 2) if edge == "right" else (2, 1)
            self.assertEqual(creep([("sheet",) + size] * 2 + [("pile", 2), ("fold", edge, 1, "over")]), [0] * 4)

    def test_random_plans(self):
        for seed in range(150):
            plan = random_plan(seed, 3, ("fold", "turn"), False)
            pairs = [crease[1:] for crease in creases_by_hand(plan) if crease[0] == "left"]
            self.assertEqual(creep(plan), [sum(first < leaf < second for first, second in pairs)
                                           for leaf in range(len(leaf_order(plan)))])

    def test_halving_folds_of_a_long_sheet(self):
        self.assertEqual(creep([("sheet", 1, 8)] + halving(1, 8)), [0, 1, 2, 3, 3, 2, 1, 0])


class ErrorsTest(unittest.TestCase):
    def raises(self, plan, what):
        for call in (creases, conjugates, is_sewable, creep):
            with self.assertRaises(Refused) as caught:
                call(plan)
            self.assertEqual(caught.exception.what, what)
            self.assertIsInstance(caught.exception, BookError)

    def test_plan_has_cuts(self):
        self.raises([("sheet", 1, 2), ("cut", "left", 1), ("pile", 2)], "plan has cuts")
        self.raises([("sheet", 1, 2), ("stack", "left", 1, "over")], "plan has cuts")
        self.raises([("sheet", 2, 2), ("fold", "top", 1, "over"), ("stack", "right", 1, "under")], "plan has cuts")

    def test_errors_of_plans_come_first(self):
        self.raises([("sheet", 8, 8), ("cut", "left", 1), ("sheet", 8, 8)], "too many panels")
        self.raises([("sheet", 8, 8), ("sheet", 1, 1)], "too many panels")
        self.raises([("sheet", 1, 2), ("cut", "left", 2)], "plan fails")
        self.raises([("stack", "left", 1, "over")], "plan fails")
        self.raises([("sheet", 1, 2), ("cut", "left", 1)], "plan is not complete")
        self.raises([("sheet", 2, 2), ("stack", "left", 1, "over")], "plan is not complete")
        self.raises([("sheet", 1, 2)], "plan is not complete")

    def test_arguments_stay_and_answers_may_be_changed(self):
        plan = list(IN_ONE_ANOTHER)
        for call in (creases, conjugates, creep):
            answer = call(plan)
            kept = list(answer)
            answer.clear()
            self.assertEqual(call(plan), kept)
        self.assertEqual(plan, IN_ONE_ANOTHER)


if __name__ == "__main__":
    unittest.main()
