"""Binderies: points 38 and 39, and point 4 for them."""

import random
import unittest

from boundbook.bindery import Bindery
from boundbook.errors import BookError, Refused
from boundbook.imposition import impose, read_prints
from boundbook.packets import size_of
from boundbook.plans import evaluate
from paper import carried_out, marked_sheet, random_plan

A_FOLD = ("fold", "left", 1, "over")
ONE = marked_sheet(0, 1, 1)
WIDE = marked_sheet(0, 1, 2)
LARGE = marked_sheet(0, 8, 8)


def up(*pages):
    return [(page, False) for page in pages]


def down(*pages):
    return [(page, True) for page in pages]


def random_prints(rng, plan):
    return [tuple(tuple(tuple((rng.randrange(10000), rng.random() < 0.5) for _ in range(step[2]))
                        for _ in range(step[1])) for _ in range(2)) for step in plan if step[0] == "sheet"]


def bindery_with(*sheets):
    bindery = Bindery()
    for sheet in sheets:
        bindery.place(sheet)
    return bindery


def take_steps(bindery, plan, prints):
    """Take the steps of a plan; return what each one returns."""
    left = list(prints)
    return [bindery.place(left.pop(0)) if step[0] == "sheet" else bindery.work(step) for step in plan]


def all_answers(bindery):
    """All that a bindery tells, errors included."""
    answers = []
    for call in (bindery.packet_count, bindery.sizes, bindery.plan, bindery.top_view, bindery.read):
        try:
            answers.append(call())
        except Refused as fault:
            answers.append(fault.what)
    return answers


class BinderyCase(unittest.TestCase):
    def raises(self, what, call, *arguments):
        with self.assertRaises(Refused) as caught:
            call(*arguments)
        self.assertEqual(caught.exception.what, what)
        self.assertIsInstance(caught.exception, BookError)

    def refuses(self, bindery, what, call, *arguments):
        """The call fails with this text, and everything is as before."""
        before = all_answers(bindery)
        self.raises(what, call, *arguments)
        self.assertEqual(all_answers(bindery), before)


class StepsTest(BinderyCase):
    def test_without_steps(self):
        bindery = Bindery()
        self.assertEqual((bindery.packet_count(), bindery.sizes(), bindery.plan()), (0, [], []))

    def test_what_steps_return(self):
        bindery = Bindery()
        self.assertEqual(bindery.place(marked_sheet(0, 2, 3)), 1)
        self.assertEqual(bindery.place(marked_sheet(1, 1, 4)), 2)
        self.assertEqual(bindery.work(A_FOLD), [(2, 3), (1, 3)])
        self.assertEqual(bindery.work(("take", 0)), [(1, 3), (2, 3)])
        self.assertEqual(bindery.work(("cut", "top", 1)), [(1, 3), (1, 3), (1, 3)])
        self.assertEqual(bindery.work(("pile", 3)), [(1, 3)])
        self.assertEqual(bindery.work(("stack", "right", 2, "under")), [(1, 2)])
        self.assertEqual(bindery.work(("turn", "both")), [(1, 2)])
        self.assertEqual((bindery.packet_count(), bindery.sizes()), (1, [(1, 2)]))
        self.assertEqual(bindery.plan(), [
            ("sheet", 2, 3), ("sheet", 1, 4), A_FOLD, ("take", 0), ("cut", "top", 1), ("pile", 3),
            ("stack", "right", 2, "under"), ("turn", "both")])

    def test_the_same_steps_as_a_plan(self):
        for seed in range(200):
            plan = random_plan(seed)
            prints = random_prints(random.Random(seed), plan)
            bindery, placed = Bindery(), 0
            for count, step in enumerate(plan, start=1):
                if step[0] == "sheet":
                    answer = bindery.place(prints[placed])
                    placed += 1
                    self.assertEqual(answer, len(evaluate(plan[:count])))
                else:
                    self.assertEqual(bindery.work(step), bindery.sizes())
                self.compare(bindery, plan[:count], prints)

    def compare(self, bindery, plan, prints):
        packets, papers = evaluate(plan), carried_out(plan, prints)
        self.assertEqual(bindery.plan(), plan)
        self.assertEqual(bindery.packet_count(), len(packets))
        self.assertEqual(bindery.sizes(), [size_of(packet) for packet in packets])
        rows, columns = papers[-1].size()
        self.assertEqual(bindery.top_view(), [
            [papers[-1].cells[(r, c)][0][1] for c in range(columns)] for r in range(rows)])
        if (rows, columns) == (1, 1):
            self.assertEqual(bindery.read(), papers[-1].marks())
        else:
            self.raises("packet is not complete", bindery.read)

    def test_a_complete_plan_reads_as_its_prints(self):
        for seed in range(50):
            plan = random_plan(seed)
            leaves = sum(rows * columns for word, rows, columns in (s for s in plan if s[0] == "sheet"))
            pages = list(range(1, 2 * leaves + 1))
            prints = impose(plan, pages)
            bindery = Bindery()
            take_steps(bindery, plan, prints)
            self.assertEqual(bindery.read(), up(*pages))
            self.assertEqual(bindery.read(), read_prints(plan, prints))

    def test_two_binderies_are_apart(self):
        first, second = bindery_with(WIDE), bindery_with(ONE, ONE)
        first.work(A_FOLD)
        self.assertEqual((first.sizes(), second.sizes()), ([(1, 1)], [(1, 1), (1, 1)]))
        second.undo()
        self.assertEqual((len(first.plan()), len(second.plan())), (2, 1))


class ViewTest(BinderyCase):
    sheet = ((tuple(up(1, 2)), tuple(down(3, 4))), (tuple(up(5, 6)), tuple(up(7, 8))))

    def test_a_flat_sheet(self):
        self.assertEqual(bindery_with(self.sheet).top_view(), [up(1, 2), down(3, 4)])

    def test_mirrored_layers(self):
        bindery = bindery_with(self.sheet)
        bindery.work(("turn", "vertical"))
        self.assertEqual(bindery.top_view(), [up(5, 6), up(7, 8)])

    def test_turned_layers(self):
        bindery = bindery_with(self.sheet)
        bindery.work(("turn", "horizontal"))
        self.assertEqual(bindery.top_view(), [down(8, 7), down(6, 5)])

    def test_layers_that_are_mirrored_and_turned(self):
        bindery = bindery_with(self.sheet)
        bindery.work(("turn", "both"))
        self.assertEqual(bindery.top_view(), [up(4, 3), down(2, 1)])

    def test_some_of_each(self):
        bindery = bindery_with(self.sheet)
        bindery.work(("fold", "right", 1, "over"))
        self.assertEqual(bindery.top_view(), [up(5), up(7)])
        bindery.work(("fold", "bottom", 1, "over"))
        self.assertEqual(bindery.top_view(), [down(8)])
        self.assertEqual(bindery.read(), down(8) + up(3, 4) + down(7) + up(5, 2, 1, 6))

    def test_the_last_packet_is_seen(self):
        bindery = bindery_with(WIDE, ONE)
        self.assertEqual(bindery.top_view(), [[(1, False)]])
        bindery.work(("take", 0))
        self.assertEqual(bindery.top_view(), [up(1, 2)])

    def test_the_last_packet_is_read_alone(self):
        bindery = bindery_with(marked_sheet(0, 1, 1), marked_sheet(1, 1, 1))
        self.assertEqual(bindery.read(), up(201, 202))
        bindery.work(("take", 0))
        self.assertEqual(bindery.read(), up(1, 2))
        bindery.work(("pile", 2))
        self.assertEqual(bindery.read(), up(201, 202, 1, 2))

    def test_without_packets(self):
        bindery = Bindery()
        self.raises("no packet", bindery.top_view)
        self.raises("no packet", bindery.read)

    def test_packets_that_are_not_complete(self):
        for sheet in (WIDE, marked_sheet(0, 2, 1), marked_sheet(0, 7, 8)):
            self.raises("packet is not complete", bindery_with(ONE, sheet).read)
            self.assertEqual(len(bindery_with(ONE, sheet).top_view()), len(sheet[0]))


class BoundsTest(BinderyCase):
    def test_sixty_steps_and_one_more(self):
        bindery = bindery_with(ONE)
        for _ in range(59):
            bindery.work(("turn", "vertical"))
        self.assertEqual(len(bindery.plan()), 60)
        self.refuses(bindery, "too many steps", bindery.work, ("turn", "vertical"))
        self.refuses(bindery, "too many steps", bindery.place, ONE)
        self.assertEqual(bindery.read(), up(2, 1))

    def test_sixty_sheets(self):
        bindery = bindery_with(*[ONE] * 60)
        self.assertEqual((bindery.packet_count(), len(bindery.plan())), (60, 60))
        self.refuses(bindery, "too many steps", bindery.place, ONE)

    def test_undo_behind_a_full_bindery(self):
        bindery = bindery_with(ONE)
        for _ in range(59):
            bindery.work(("turn", "vertical"))
        self.assertEqual(bindery.undo(), 59)
        self.assertEqual(bindery.place(WIDE), 2)
        self.refuses(bindery, "too many steps", bindery.work, A_FOLD)
        self.assertEqual(bindery.undo(), 59)
        self.assertEqual(bindery.work(("turn", "both")), [(1, 1)])
        self.assertEqual(len(bindery.plan()), 60)

    def test_sixty_four_panels_of_all_sheets_and_one_more(self):
        bindery = bindery_with(LARGE)
        self.refuses(bindery, "too many panels", bindery.place, ONE)
        bindery = bindery_with(*[marked_sheet(0, 4, 4)] * 3, marked_sheet(0, 3, 5))
        self.refuses(bindery, "too many panels", bindery.place, WIDE)
        self.assertEqual(bindery.place(ONE), 5)
        self.refuses(bindery, "too many panels", bindery.place, ONE)

    def test_panels_of_a_sheet_that_was_taken_back_do_not_count(self):
        bindery = bindery_with(ONE, marked_sheet(0, 7, 8))
        self.refuses(bindery, "too many panels", bindery.place, marked_sheet(0, 1, 8))
        bindery.undo()
        self.assertEqual(bindery.place(marked_sheet(0, 7, 8)), 2)
        self.assertEqual(bindery.place(marked_sheet(0, 1, 7)), 3)

    def test_folded_and_piled_panels_still_count(self):
        bindery = bindery_with(marked_sheet(0, 8, 7), marked_sheet(1, 1, 4), marked_sheet(2, 1, 4))
        bindery.work(("pile", 2))
        self.refuses(bindery, "too many panels", bindery.place, ONE)


class FailuresTest(BinderyCase):
    def test_no_packet(self):
        for step in (A_FOLD, ("stack", "top", 7, "under"), ("cut", "right", 1), ("turn", "both")):
            bindery = Bindery()
            self.refuses(bindery, "no packet", bindery.work, step)

    def test_each_failure_leaves_everything_as_before(self):
        bindery = bindery_with(marked_sheet(0, 2, 3), WIDE)
        for edge, line in (("left", 2), ("right", 7), ("top", 1), ("bottom", 1)):
            self.refuses(bindery, "line outside the packet", bindery.work, ("fold", edge, line, "over"))
            self.refuses(bindery, "line outside the packet", bindery.work, ("stack", edge, line, "under"))
            self.refuses(bindery, "line outside the packet", bindery.work, ("cut", edge, line))
        self.refuses(bindery, "no such packet", bindery.work, ("take", 2))
        self.refuses(bindery, "too few packets", bindery.work, ("pile", 3))
        self.refuses(bindery, "packets differ in size", bindery.work, ("pile", 2))
        self.assertEqual(bindery.work(A_FOLD), [(2, 3), (1, 1)])

    def test_too_few_packets_before_sizes(self):
        bindery = bindery_with(WIDE, ONE)
        self.refuses(bindery, "too few packets", bindery.work, ("pile", 3))
        self.raises("too few packets", Bindery().work, ("pile", 2))
        self.raises("no such packet", Bindery().work, ("take", 0))

    def test_too_many_steps_is_told_first(self):
        bindery = bindery_with(LARGE)
        for _ in range(59):
            bindery.work(("turn", "vertical"))
        self.refuses(bindery, "too many steps", bindery.place, LARGE)
        self.refuses(bindery, "too many steps", bindery.work, ("take", 5))
        self.refuses(bindery, "too many steps", bindery.work, ("pile", 2))

    def test_failed_steps_do_not_count(self):
        bindery = bindery_with(ONE)
        for _ in range(100):
            self.raises("line outside the packet", bindery.work, A_FOLD)
        self.assertEqual(bindery.plan(), [("sheet", 1, 1)])


class UndoTest(BinderyCase):
    def test_at_once(self):
        bindery = Bindery()
        self.refuses(bindery, "nothing to undo", bindery.undo)

    def test_down_to_nothing(self):
        bindery = bindery_with(WIDE)
        bindery.work(A_FOLD)
        self.assertEqual([bindery.undo(), bindery.undo()], [1, 0])
        self.refuses(bindery, "nothing to undo", bindery.undo)
        self.assertEqual((bindery.packet_count(), bindery.sizes(), bindery.plan()), (0, [], []))
        self.raises("no packet", bindery.read)

    def test_a_placed_sheet(self):
        bindery = bindery_with(marked_sheet(0, 1, 2), marked_sheet(1, 1, 1))
        self.assertEqual(bindery.undo(), 1)
        self.assertEqual(bindery.top_view(), [up(1, 2)])
        bindery.place(marked_sheet(2, 1, 1))
        self.assertEqual(bindery.read(), up(401, 402))
        self.assertEqual(bindery.plan(), [("sheet", 1, 2), ("sheet", 1, 1)])

    def test_each_kind_of_step(self):
        bindery = bindery_with(marked_sheet(0, 2, 2), marked_sheet(1, 2, 2))
        for step in (("fold", "left", 1, "under"), ("stack", "top", 1, "over"), ("cut", "bottom", 1),
                     ("turn", "horizontal"), ("take", 0), ("pile", 2)):
            before = all_answers(bindery)
            bindery.work(step)
            self.assertEqual(bindery.undo(), 2)
            self.assertEqual(all_answers(bindery), before)

    def test_through_random_plans(self):
        for seed in range(60):
            plan = random_plan(seed)
            prints = random_prints(random.Random(seed), plan)
            bindery, left, told = Bindery(), list(prints), []
            for step in plan:
                told.append(all_answers(bindery))
                take_steps(bindery, [step], [left.pop(0)] if step[0] == "sheet" else [])
            for count in reversed(range(len(plan))):
                self.assertEqual(bindery.undo(), count)
                self.assertEqual(all_answers(bindery), told[count])
            take_steps(bindery, plan, prints)
            self.assertEqual(bindery.read(), read_prints(plan, prints))


class ChangesTest(BinderyCase):
    def test_lists_that_are_returned_may_be_changed(self):
        bindery = bindery_with(marked_sheet(0, 2, 1), WIDE)
        returned = [bindery.work(A_FOLD)]
        before = all_answers(bindery)
        view = bindery.top_view()
        returned += [bindery.sizes(), bindery.plan(), bindery.read(), *view, view]
        for answer in returned:
            self.assertIsInstance(answer, list)
            self.assertTrue(answer)
            answer.append(None)
            answer[0] = None
            answer.reverse()
        self.assertEqual(all_answers(bindery), before)
        self.assertEqual(bindery.undo(), 2)
        self.assertEqual(bindery.sizes(), [(2, 1), (1, 2)])

    def test_steps_that_are_passed_may_be_changed(self):
        bindery, step = bindery_with(WIDE), list(A_FOLD)
        bindery.work(step)
        step[1] = "right"
        self.assertEqual(bindery.plan(), [("sheet", 1, 2), A_FOLD])

    def test_asking_changes_nothing(self):
        bindery = bindery_with(WIDE)
        bindery.work(A_FOLD)
        self.assertEqual(all_answers(bindery), all_answers(bindery))


if __name__ == "__main__":
    unittest.main()
