"""Plans and leaves: points 27 and 28."""

import random
import unittest

from boundbook.errors import BookError, Refused
from boundbook.layers import turn_layer
from boundbook.packets import cut, fold, pile, sheet_packet, stack, turn
from boundbook.plans import evaluate, is_complete, leaf_order, sheets_of, work
from paper import EDGES, carried_out, marked_sheets, random_plan

A_FOLD = ("fold", "left", 1, "over")


class SheetsTest(unittest.TestCase):
    def test_in_the_order_of_the_plan(self):
        self.assertEqual(sheets_of([]), [])
        self.assertEqual(sheets_of([("sheet", 2, 3)]), [(2, 3)])
        plan = [("sheet", 2, 3), A_FOLD, ("turn", "both"), ("sheet", 1, 8), ("take", 0), ("sheet", 2, 3)]
        self.assertEqual(sheets_of(plan), [(2, 3), (1, 8), (2, 3)])

    def test_it_raises_nothing(self):
        self.assertEqual(sheets_of([A_FOLD, ("sheet", 8, 8), ("sheet", 8, 8), ("pile", 7)]), [(8, 8), (8, 8)])
        self.assertEqual(sheets_of([("take", 3), ("cut", "top", 7)]), [])


class EvaluateTest(unittest.TestCase):
    def test_nothing(self):
        self.assertEqual(evaluate([]), [])

    def test_sheets_are_placed_behind_one_another(self):
        self.assertEqual(evaluate([("sheet", 1, 2)]), [sheet_packet(0, 1, 2)])
        self.assertEqual(evaluate([("sheet", 1, 2), ("sheet", 3, 1), ("sheet", 2, 2)]),
                         [sheet_packet(0, 1, 2), sheet_packet(1, 3, 1), sheet_packet(2, 2, 2)])

    def test_the_last_packet_is_folded_and_stacked_and_turned(self):
        first, last = sheet_packet(0, 2, 4), sheet_packet(1, 2, 4)
        start = [("sheet", 2, 4), ("sheet", 2, 4)]
        for edge, line in (("left", 3), ("right", 1), ("top", 1), ("bottom", 1)):
            for way in ("over", "under"):
                self.assertEqual(evaluate(start + [("fold", edge, line, way)]), [first, fold(last, edge, line, way)])
                self.assertEqual(evaluate(start + [("stack", edge, line, way)]), [first, stack(last, edge, line, way)])
        for axis in ("vertical", "horizontal", "both"):
            self.assertEqual(evaluate(start + [("turn", axis)]), [first, turn(last, axis)])

    def test_cutting_leaves_the_part_at_the_end(self):
        first, last = sheet_packet(0, 1, 1), sheet_packet(1, 3, 3)
        for edge in EDGES:
            rest, part = cut(last, edge, 2)
            self.assertEqual(evaluate([("sheet", 1, 1), ("sheet", 3, 3), ("cut", edge, 2)]), [first, rest, part])

    def test_taking(self):
        sheets = [("sheet", 1, 1), ("sheet", 1, 2), ("sheet", 1, 3)]
        a, b, c = [sheet_packet(number, 1, number + 1) for number in range(3)]
        self.assertEqual(evaluate(sheets + [("take", 0)]), [b, c, a])
        self.assertEqual(evaluate(sheets + [("take", 1)]), [a, c, b])
        self.assertEqual(evaluate(sheets + [("take", 2)]), [a, b, c])
        self.assertEqual(evaluate(sheets + [("take", 0), ("take", 0)]), [c, a, b])

    def test_piling_the_last_ones(self):
        sheets = [("sheet", 1, 1), ("sheet", 1, 2), ("sheet", 1, 2), ("sheet", 1, 2)]
        a, b, c, d = [sheet_packet(number, 1, 1 if number == 0 else 2) for number in range(4)]
        self.assertEqual(evaluate(sheets + [("pile", 2)]), [a, b, pile([c, d])])
        self.assertEqual(evaluate(sheets + [("pile", 3)]), [a, pile([b, c, d])])
        self.assertEqual(evaluate(sheets + [("pile", 2), ("pile", 2)]), [a, pile([b, c, d])])

    def test_sheets_are_numbered_behind_a_pile_too(self):
        plan = [("sheet", 1, 1), ("sheet", 1, 1), ("pile", 2), ("sheet", 1, 2)]
        self.assertEqual(evaluate(plan)[1], sheet_packet(2, 1, 2))

    def test_random_plans_as_with_paper(self):
        for seed in range(300):
            plan = random_plan(seed)
            plan = plan[:random.Random(seed).randint(0, len(plan))]
            papers = carried_out(plan, marked_sheets(plan))
            found = [tuple(tuple(tuple(layer[:3] for layer in cell) for cell in row) for row in packet)
                     for packet in evaluate(plan)]
            self.assertEqual(found, [paper.panels() for paper in papers], plan)

    def test_plans_and_answers_may_be_changed(self):
        plan = [("sheet", 1, 2)]
        packets = evaluate(plan)
        packets.append(None)
        self.assertEqual(evaluate(plan), [sheet_packet(0, 1, 2)])
        sizes = sheets_of(plan)
        sizes.clear()
        self.assertEqual(sheets_of(plan), [(1, 2)])
        leaf_order(plan + [A_FOLD])
        self.assertEqual(plan, [("sheet", 1, 2)])


class FailureTest(unittest.TestCase):
    """The texts with which an instruction fails."""

    def fails(self, packets, instruction, what):
        kept = list(packets)
        with self.assertRaises(Refused) as caught:
            work(packets, instruction)
        self.assertEqual(caught.exception.what, what)
        self.assertEqual(packets, kept)

    def test_no_packet(self):
        for instruction in (A_FOLD, ("stack", "top", 7, "under"), ("cut", "right", 1), ("turn", "both")):
            self.fails([], instruction, "no packet")

    def test_line_outside_the_packet(self):
        wide, last = sheet_packet(0, 8, 8), sheet_packet(1, 2, 3)
        for edge, line in (("left", 3), ("right", 3), ("top", 2), ("bottom", 2), ("left", 7), ("top", 7)):
            self.fails([wide, last], ("fold", edge, line, "over"), "line outside the packet")
            self.fails([wide, last], ("stack", edge, line, "under"), "line outside the packet")
            self.fails([wide, last], ("cut", edge, line), "line outside the packet")

    def test_no_such_packet(self):
        self.fails([], ("take", 0), "no such packet")
        packets = [sheet_packet(0, 1, 1), sheet_packet(1, 1, 1)]
        for index in (2, 3, 100, -1):
            self.fails(packets, ("take", index), "no such packet")
        self.assertEqual(work(packets, ("take", 1)), packets)

    def test_too_few_packets(self):
        one, other = sheet_packet(0, 1, 1), sheet_packet(1, 1, 1)
        self.fails([], ("pile", 2), "too few packets")
        self.fails([one], ("pile", 2), "too few packets")
        self.fails([one, other], ("pile", 3), "too few packets")

    def test_packets_differ_in_size(self):
        one, other, wide = sheet_packet(0, 1, 1), sheet_packet(1, 1, 1), sheet_packet(2, 1, 2)
        self.fails([one, wide], ("pile", 2), "packets differ in size")
        self.fails([wide, one, other], ("pile", 3), "packets differ in size")
        self.assertEqual(work([wide, one, other], ("pile", 2)), [wide, pile([one, other])])

    def test_too_few_packets_is_told_first(self):
        self.fails([sheet_packet(0, 1, 1), sheet_packet(1, 1, 2)], ("pile", 3), "too few packets")

    def test_each_makes_the_plan_fail(self):
        for plan in (
            [A_FOLD], [("stack", "top", 1, "over")], [("cut", "right", 1)], [("turn", "vertical")],
            [("sheet", 2, 1), A_FOLD], [("sheet", 1, 2), ("stack", "top", 1, "over")],
            [("sheet", 1, 2), ("cut", "left", 2)], [("take", 0)], [("sheet", 1, 1), ("take", 1)],
            [("pile", 2)], [("sheet", 1, 1), ("pile", 2)], [("sheet", 1, 1), ("sheet", 1, 2), ("pile", 2)],
            [A_FOLD, ("sheet", 1, 2)],
        ):
            for call in (evaluate, leaf_order):
                with self.assertRaises(Refused) as caught:
                    call(plan)
                self.assertEqual(caught.exception.what, "plan fails", plan)
                self.assertIsInstance(caught.exception, BookError)
            self.assertIs(is_complete(plan), False)


class PanelsTest(unittest.TestCase):
    def raises(self, plan):
        for call in (evaluate, is_complete, leaf_order):
            with self.assertRaises(Refused) as caught:
                call(plan)
            self.assertEqual(caught.exception.what, "too many panels")

    def test_64_panels_and_65(self):
        halves = [("fold", "left", 4, "over"), ("fold", "left", 2, "over"), A_FOLD,
                  ("fold", "top", 4, "over"), ("fold", "top", 2, "over"), ("fold", "top", 1, "over")]
        plan = [("sheet", 8, 8)] + halves
        self.assertEqual(len(leaf_order(plan)), 64)
        self.assertIs(is_complete(plan), True)
        self.raises([("sheet", 1, 1)] + plan)
        self.raises(plan + [("sheet", 1, 1)])

    def test_all_sheets_together(self):
        self.assertEqual(len(evaluate([("sheet", 4, 8), ("sheet", 8, 4)])), 2)
        self.raises([("sheet", 4, 8), ("sheet", 8, 4), ("sheet", 1, 1)])
        self.raises([("sheet", 5, 8), ("sheet", 5, 5)])

    def test_it_is_told_before_a_failure(self):
        self.raises([A_FOLD, ("sheet", 8, 8), ("sheet", 1, 1)])
        self.raises([("sheet", 8, 8), ("pile", 2), ("sheet", 8, 8)])
        self.raises([("sheet", 8, 8), ("sheet", 8, 8)])


class CompleteTest(unittest.TestCase):
    def test_complete_plans(self):
        for plan in ([("sheet", 1, 1)], [("sheet", 1, 2), A_FOLD],
                     [("sheet", 1, 1), ("sheet", 1, 1), ("pile", 2)],
                     [("sheet", 1, 2), ("cut", "left", 1), ("pile", 2)],
                     [("sheet", 2, 2), ("stack", "top", 1, "over"), A_FOLD, ("turn", "both")]):
            self.assertIs(is_complete(plan), True)

    def test_plans_that_are_not_complete(self):
        for plan in ([], [("sheet", 1, 2)], [("sheet", 2, 1)], [("sheet", 2, 2), A_FOLD],
                     [("sheet", 1, 1), ("sheet", 1, 1)], [("sheet", 1, 2), ("cut", "left", 1)],
                     [("sheet", 1, 1), ("sheet", 1, 2)], [("sheet", 1, 2), ("sheet", 1, 2), ("pile", 2)]):
            self.assertIs(is_complete(plan), False)
            with self.assertRaises(Refused) as caught:
                leaf_order(plan)
            self.assertEqual(caught.exception.what, "plan is not complete")
            evaluate(plan)

    def test_failing_is_told_before_not_being_complete(self):
        plan = [("sheet", 1, 1), ("sheet", 2, 2), ("fold", "left", 2, "over")]
        with self.assertRaises(Refused) as caught:
            leaf_order(plan)
        self.assertEqual(caught.exception.what, "plan fails")

    def test_random_plans_are_complete(self):
        for seed in range(100):
            self.assertIs(is_complete(random_plan(seed)), True)


class LeavesTest(unittest.TestCase):
    def test_one_panel(self):
        self.assertEqual(leaf_order([("sheet", 1, 1)]), ((0, 0, 0, False, False),))
        self.assertEqual(leaf_order([("sheet", 1, 1), ("turn", "vertical")]), ((0, 0, 0, True, False),))
        self.assertEqual(leaf_order([("sheet", 1, 1), ("turn", "horizontal")]), ((0, 0, 0, False, True),))

    def test_one_sheet(self):
        self.assertEqual(leaf_order([("sheet", 1, 2), A_FOLD]), ((0, 0, 0, True, False), (0, 0, 1, False, False)))
        plan = [("sheet", 2, 2), A_FOLD, ("fold", "top", 1, "over")]
        self.assertEqual(leaf_order(plan), (
            (0, 0, 1, False, True), (0, 0, 0, True, True), (0, 1, 0, True, False), (0, 1, 1, False, False)))

    def test_two_sheets(self):
        plan = [("sheet", 1, 2), A_FOLD, ("sheet", 1, 2), ("fold", "right", 1, "under"), ("pile", 2)]
        self.assertEqual(leaf_order(plan), (
            (0, 0, 0, True, False), (0, 0, 1, False, False), (1, 0, 0, False, False), (1, 0, 1, True, False)))

    def test_one_sheet_in_another(self):
        plan = [("sheet", 1, 2), ("sheet", 1, 2), ("pile", 2), A_FOLD]
        self.assertEqual(leaf_order(plan), (
            (1, 0, 0, True, False), (0, 0, 0, True, False), (0, 0, 1, False, False), (1, 0, 1, False, False)))

    def test_turning_in_the_end(self):
        for seed in range(100):
            plan = random_plan(seed)
            leaves = leaf_order(plan)
            self.assertEqual(leaf_order(plan + [("turn", "vertical")]),
                             tuple(turn_layer(leaf, "vertical") for leaf in reversed(leaves)))
            self.assertEqual(leaf_order(plan + [("turn", "both")]),
                             tuple(turn_layer(leaf, "both") for leaf in leaves))

    def test_each_panel_is_a_leaf(self):
        for seed in range(100):
            plan = random_plan(seed)
            leaves = leaf_order(plan)
            self.assertIsInstance(leaves, tuple)
            self.assertEqual(sorted(leaf[:3] for leaf in leaves),
                             [(number, row, column) for number, (rows, columns) in enumerate(sheets_of(plan))
                              for row in range(rows) for column in range(columns)])


if __name__ == "__main__":
    unittest.main()
