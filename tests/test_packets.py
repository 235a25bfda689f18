"""Packets: points 23, 25 and 26."""

import random
import unittest

from boundbook.errors import BookError, Refused
from boundbook.packets import cut, fold, pile, sheet_packet, size_of, stack, turn
from paper import AXES, EDGES, WAYS, marked_sheet, printed_paper


def flat(column, row=0, number=0):
    return (number, row, column, False, False)


def mirrored(column, row=0):
    return (0, row, column, True, False)


def turned(column, row=0):
    return (0, row, column, False, True)


def half(column, row=0):
    return (0, row, column, True, True)


def panels(packet):
    """The panels of the layers of a packet, without how they lie."""
    return tuple(tuple(tuple(layer[:3] for layer in cell) for cell in row) for row in packet)


def letters(packet):
    """A packet of one sheet of one row: the columns of the layers of each cell."""
    return [[layer[2] for layer in cell] for cell in packet[0]]


def downwards(packet):
    """A packet of one sheet of one column: the rows of the layers of each cell."""
    return [[layer[1] for layer in row[0]] for row in packet]


STRIP = sheet_packet(0, 1, 5)
TOWER = sheet_packet(0, 5, 1)


class SheetTest(unittest.TestCase):
    def test_a_flat_sheet(self):
        self.assertEqual(sheet_packet(7, 2, 3), (
            ((flat(0, 0, 7),), (flat(1, 0, 7),), (flat(2, 0, 7),)),
            ((flat(0, 1, 7),), (flat(1, 1, 7),), (flat(2, 1, 7),)),
        ))
        self.assertEqual(sheet_packet(0, 1, 1), (((flat(0),),),))

    def test_sizes(self):
        for rows in range(1, 9):
            for columns in range(1, 9):
                self.assertEqual(size_of(sheet_packet(0, rows, columns)), (rows, columns))
        self.assertEqual(size_of(fold(sheet_packet(0, 3, 5), "left", 2, "over")), (3, 3))


class TurnTest(unittest.TestCase):
    packet = (((flat(0), mirrored(1)), (turned(2),)), ((flat(0, 1),), (flat(1, 1), flat(2, 1))))

    def test_about_the_vertical_axis(self):
        self.assertEqual(turn(self.packet, "vertical"), (
            ((half(2),), (flat(1), mirrored(0))),
            ((mirrored(2, 1), mirrored(1, 1)), (mirrored(0, 1),)),
        ))

    def test_about_the_horizontal_axis(self):
        self.assertEqual(turn(self.packet, "horizontal"), (
            ((turned(0, 1),), (turned(2, 1), turned(1, 1))),
            ((half(1), turned(0)), (flat(2),)),
        ))

    def test_about_both(self):
        self.assertEqual(turn(self.packet, "both"), (
            ((half(1, 1), half(2, 1)), (half(0, 1),)),
            ((mirrored(2),), (half(0), turned(1))),
        ))

    def test_twice_is_nothing(self):
        for axis in AXES:
            self.assertEqual(turn(turn(self.packet, axis), axis), self.packet)

    def test_both_are_one_after_the_other(self):
        self.assertEqual(turn(turn(self.packet, "vertical"), "horizontal"), turn(self.packet, "both"))
        self.assertEqual(turn(turn(self.packet, "horizontal"), "vertical"), turn(self.packet, "both"))


class FoldTest(unittest.TestCase):
    def test_two_panels(self):
        sheet = sheet_packet(0, 1, 2)
        self.assertEqual(fold(sheet, "left", 1, "over"), (((mirrored(0), flat(1)),),))
        self.assertEqual(fold(sheet, "left", 1, "under"), (((flat(1), mirrored(0)),),))
        self.assertEqual(fold(sheet, "right", 1, "over"), (((mirrored(1), flat(0)),),))
        self.assertEqual(fold(sheet, "right", 1, "under"), (((flat(0), mirrored(1)),),))
        sheet = sheet_packet(0, 2, 1)
        self.assertEqual(fold(sheet, "top", 1, "over"), (((turned(0, 0), flat(0, 1)),),))
        self.assertEqual(fold(sheet, "top", 1, "under"), (((flat(0, 1), turned(0, 0)),),))
        self.assertEqual(fold(sheet, "bottom", 1, "over"), (((turned(0, 1), flat(0, 0)),),))
        self.assertEqual(fold(sheet, "bottom", 1, "under"), (((flat(0, 0), turned(0, 1)),),))

    def test_the_part_is_aligned_at_the_fold(self):
        self.assertEqual(letters(fold(STRIP, "left", 2, "over")), [[1, 2], [0, 3], [4]])
        self.assertEqual(letters(fold(STRIP, "left", 2, "under")), [[2, 1], [3, 0], [4]])
        self.assertEqual(letters(fold(STRIP, "right", 2, "over")), [[0], [4, 1], [3, 2]])
        self.assertEqual(letters(fold(STRIP, "right", 2, "under")), [[0], [1, 4], [2, 3]])
        self.assertEqual(downwards(fold(TOWER, "top", 2, "over")), [[1, 2], [0, 3], [4]])
        self.assertEqual(downwards(fold(TOWER, "top", 2, "under")), [[2, 1], [3, 0], [4]])
        self.assertEqual(downwards(fold(TOWER, "bottom", 2, "over")), [[0], [4, 1], [3, 2]])
        self.assertEqual(downwards(fold(TOWER, "bottom", 2, "under")), [[0], [1, 4], [2, 3]])

    def test_a_part_that_is_wider_than_the_rest(self):
        self.assertEqual(letters(fold(STRIP, "left", 3, "over")), [[2, 3], [1, 4], [0]])
        self.assertEqual(letters(fold(STRIP, "left", 4, "under")), [[4, 3], [2], [1], [0]])
        self.assertEqual(letters(fold(STRIP, "right", 3, "over")), [[4], [3, 0], [2, 1]])
        self.assertEqual(letters(fold(STRIP, "right", 4, "under")), [[4], [3], [2], [0, 1]])
        self.assertEqual(downwards(fold(TOWER, "top", 3, "under")), [[3, 2], [4, 1], [0]])
        self.assertEqual(downwards(fold(TOWER, "bottom", 3, "over")), [[4], [3, 0], [2, 1]])
        self.assertEqual(fold(sheet_packet(0, 1, 3), "left", 2, "over"), (((mirrored(1), flat(2)), (mirrored(0),)),))

    def test_only_the_part_is_turned(self):
        packet = fold(sheet_packet(0, 2, 4), "left", 1, "over")
        self.assertEqual(packet, (
            ((mirrored(0), flat(1)), (flat(2),), (flat(3),)),
            ((mirrored(0, 1), flat(1, 1)), (flat(2, 1),), (flat(3, 1),)),
        ))
        packet = fold(packet, "bottom", 1, "under")
        self.assertEqual(packet, (
            ((mirrored(0), flat(1), turned(1, 1), half(0, 1)), (flat(2), turned(2, 1)), (flat(3), turned(3, 1))),
        ))

    def test_several_layers_change_their_order(self):
        packet = fold(sheet_packet(0, 1, 4), "left", 2, "over")
        self.assertEqual(letters(packet), [[1, 2], [0, 3]])
        self.assertEqual(fold(packet, "left", 1, "over"), (((mirrored(2), flat(1), mirrored(0), flat(3)),),))
        self.assertEqual(fold(packet, "right", 1, "under"), (((mirrored(1), flat(2), mirrored(3), flat(0)),),))


class StackTest(unittest.TestCase):
    def test_two_panels_are_not_turned(self):
        sheet = sheet_packet(0, 1, 2)
        self.assertEqual(stack(sheet, "left", 1, "over"), (((flat(0), flat(1)),),))
        self.assertEqual(stack(sheet, "left", 1, "under"), (((flat(1), flat(0)),),))
        self.assertEqual(stack(sheet, "right", 1, "over"), (((flat(1), flat(0)),),))
        self.assertEqual(stack(sheet, "right", 1, "under"), (((flat(0), flat(1)),),))
        sheet = sheet_packet(0, 2, 1)
        self.assertEqual(stack(sheet, "top", 1, "over"), (((flat(0, 0), flat(0, 1)),),))
        self.assertEqual(stack(sheet, "bottom", 1, "over"), (((flat(0, 1), flat(0, 0)),),))

    def test_the_part_is_aligned_at_the_edge(self):
        self.assertEqual(letters(stack(STRIP, "left", 2, "over")), [[0, 2], [1, 3], [4]])
        self.assertEqual(letters(stack(STRIP, "left", 2, "under")), [[2, 0], [3, 1], [4]])
        self.assertEqual(letters(stack(STRIP, "right", 2, "over")), [[0], [3, 1], [4, 2]])
        self.assertEqual(letters(stack(STRIP, "right", 2, "under")), [[0], [1, 3], [2, 4]])
        self.assertEqual(downwards(stack(TOWER, "top", 2, "over")), [[0, 2], [1, 3], [4]])
        self.assertEqual(downwards(stack(TOWER, "top", 2, "under")), [[2, 0], [3, 1], [4]])
        self.assertEqual(downwards(stack(TOWER, "bottom", 2, "over")), [[0], [3, 1], [4, 2]])
        self.assertEqual(downwards(stack(TOWER, "bottom", 2, "under")), [[0], [1, 3], [2, 4]])

    def test_a_part_that_is_wider_than_the_rest(self):
        self.assertEqual(letters(stack(STRIP, "left", 3, "over")), [[0, 3], [1, 4], [2]])
        self.assertEqual(letters(stack(STRIP, "left", 4, "under")), [[4, 0], [1], [2], [3]])
        self.assertEqual(letters(stack(STRIP, "right", 3, "over")), [[2], [3, 0], [4, 1]])
        self.assertEqual(letters(stack(STRIP, "right", 4, "under")), [[1], [2], [3], [0, 4]])
        self.assertEqual(downwards(stack(TOWER, "top", 3, "over")), [[0, 3], [1, 4], [2]])
        self.assertEqual(downwards(stack(TOWER, "bottom", 3, "under")), [[2], [0, 3], [1, 4]])

    def test_the_order_of_the_layers_remains(self):
        packet = fold(sheet_packet(0, 1, 4), "left", 2, "over")
        self.assertEqual(stack(packet, "left", 1, "over"), (((mirrored(1), flat(2), mirrored(0), flat(3)),),))


class CutTest(unittest.TestCase):
    def test_each_edge(self):
        sheet = sheet_packet(0, 2, 3)
        (a, b, c), (d, e, f) = sheet
        self.assertEqual(cut(sheet, "left", 1), (((b, c), (e, f)), ((a,), (d,))))
        self.assertEqual(cut(sheet, "left", 2), (((c,), (f,)), ((a, b), (d, e))))
        self.assertEqual(cut(sheet, "right", 1), (((a, b), (d, e)), ((c,), (f,))))
        self.assertEqual(cut(sheet, "right", 2), (((a,), (d,)), ((b, c), (e, f))))
        self.assertEqual(cut(sheet, "top", 1), (((d, e, f),), ((a, b, c),)))
        self.assertEqual(cut(sheet, "bottom", 1), (((a, b, c),), ((d, e, f),)))

    def test_the_layers_stay_as_they_lie(self):
        packet = fold(sheet_packet(0, 1, 4), "left", 2, "over")
        rest, part = cut(packet, "left", 1)
        self.assertEqual(rest, (((mirrored(0), flat(3)),),))
        self.assertEqual(part, (((mirrored(1), flat(2)),),))

    def test_rest_and_part_are_a_tuple(self):
        self.assertIsInstance(cut(STRIP, "left", 1), tuple)


class LineTest(unittest.TestCase):
    def calls(self, packet, edge, line):
        for way in WAYS:
            yield lambda: fold(packet, edge, line, way)
            yield lambda: stack(packet, edge, line, way)
        yield lambda: cut(packet, edge, line)

    def test_lines_up_to_the_size_of_the_packet(self):
        for size in range(1, 9):
            for edge in EDGES:
                packet = sheet_packet(0, 2, size) if edge in ("left", "right") else sheet_packet(0, size, 2)
                for line in range(1, 8):
                    for call in self.calls(packet, edge, line):
                        if line < size:
                            call()
                            continue
                        with self.assertRaises(Refused) as caught:
                            call()
                        self.assertEqual(caught.exception.what, "line outside the packet")
                        self.assertIsInstance(caught.exception, BookError)

    def test_the_packet_stays_when_it_is_refused(self):
        packet = sheet_packet(0, 1, 2)
        for call in self.calls(packet, "left", 2):
            self.assertRaises(Refused, call)
        self.assertEqual(packet, sheet_packet(0, 1, 2))


class PileTest(unittest.TestCase):
    def test_the_first_one_is_on_top(self):
        packets = [sheet_packet(number, 1, 2) for number in range(3)]
        self.assertEqual(pile(packets), ((
            (flat(0), flat(0, 0, 1), flat(0, 0, 2)),
            (flat(1), flat(1, 0, 1), flat(1, 0, 2)),
        ),))

    def test_all_rows(self):
        self.assertEqual(pile([sheet_packet(1, 2, 1), sheet_packet(0, 2, 1)]), (
            ((flat(0, 0, 1), flat(0)),),
            ((flat(0, 1, 1), flat(0, 1)),),
        ))

    def test_one_packet(self):
        self.assertEqual(pile([STRIP]), STRIP)

    def test_several_layers(self):
        folded = fold(sheet_packet(0, 1, 2), "left", 1, "over")
        self.assertEqual(pile([folded, sheet_packet(1, 1, 1)]), (((mirrored(0), flat(1), flat(0, 0, 1)),),))
        self.assertEqual(pile([sheet_packet(1, 1, 1), folded]), (((flat(0, 0, 1), mirrored(0), flat(1)),),))

    def test_other_sizes(self):
        for sizes in (((1, 2), (1, 3)), ((2, 1), (1, 1)), ((2, 3), (3, 2)), ((2, 2), (2, 2), (2, 1)), ((1, 4), (2, 2))):
            with self.assertRaises(Refused) as caught:
                pile([sheet_packet(number, *size) for number, size in enumerate(sizes)])
            self.assertEqual(caught.exception.what, "packets differ in size")

    def test_the_list_stays_as_it_is(self):
        packets = [STRIP, STRIP]
        pile(packets)
        self.assertEqual(packets, [STRIP, STRIP])


class PaperTest(unittest.TestCase):
    """The same steps with paper whose cells are moved one by one."""

    def test_random_steps(self):
        for seed in range(300):
            rng = random.Random(seed)
            rows, columns = rng.randint(1, 8), rng.randint(1, 8)
            packet, paper = sheet_packet(0, rows, columns), printed_paper(0, marked_sheet(0, rows, columns))
            for _ in range(6):
                word = rng.choice(("fold", "stack", "turn", "cut", "pile"))
                edge, way, axis = rng.choice(EDGES), rng.choice(WAYS), rng.choice(AXES)
                length = size_of(packet)[1 if edge in ("left", "right") else 0]
                if word == "turn":
                    packet, paper = turn(packet, axis), paper.turned(axis)
                elif word == "pile":
                    other = turn(packet, axis)
                    packet, paper = pile([packet, other]), paper.piled(paper.turned(axis))
                elif length > 1:
                    line = rng.randint(1, min(7, length - 1))
                    if word == "cut":
                        at = rng.choice((0, 1))
                        packet, paper = cut(packet, edge, line)[at], paper.cut(edge, line)[at]
                    elif word == "fold":
                        packet, paper = fold(packet, edge, line, way), paper.folded(edge, line, way)
                    else:
                        packet, paper = stack(packet, edge, line, way), paper.stacked(edge, line, way)
                self.assertEqual(panels(packet), paper.panels(), seed)
                self.assertEqual(size_of(packet), paper.size())


if __name__ == "__main__":
    unittest.main()
