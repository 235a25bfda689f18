"""Plans: what their instructions leave on the table, and the leaves of a book (points 27 and 28)."""

from boundbook.errors import Refused
from boundbook.packets import cut, fold, pile, sheet_packet, size_of, stack, turn

MOST_PANELS = 64


def sheets_of(plan):
    """Return the list of the sizes of the sheets that a plan places."""
    return [(instruction[1], instruction[2]) for instruction in plan if instruction[0] == "sheet"]


def panel_count(sizes):
    """Return how many panels sheets of these sizes have together."""
    return sum([rows * columns for rows, columns in sizes])


def work_packet(packet, instruction):
    """Return the list of what becomes of the last packet when it is folded, stacked, cut or turned."""
    if instruction[0] == "turn":
        return [turn(packet, instruction[1])]
    if instruction[0] == "cut":
        return list(cut(packet, instruction[1], instruction[2]))
    word, edge, line, way = instruction
    if word == "fold":
        return [fold(packet, edge, line, way)]
    return [stack(packet, edge, line, way)]


def take(packets, index):
    """Return the packets with the one that has this index at the end."""
    if not 0 <= index < len(packets):
        raise Refused("no such packet")
    return packets[:index] + packets[index + 1:] + [packets[index]]


def pile_last(packets, count):
    """Return the packets with a pile in place of the last ones, so many."""
    if count > len(packets):
        raise Refused("too few packets")
    first = len(packets) - count
    return packets[:first] + [pile(packets[first:])]


def work(packets, instruction):
    """Return the list of the packets after an instruction that is no sheet, or raise Refused."""
    if instruction[0] == "take":
        return take(packets, instruction[1])
    if instruction[0] == "pile":
        return pile_last(packets, instruction[1])
    if not packets:
        raise Refused("no packet")
    return packets[:-1] + work_packet(packets[-1], instruction)


def carry_out(plan):
    """Return the list of the packets that a plan leaves, or raise Refused with the text of its failure."""
    packets = []
    sheet_count = 0
    for instruction in plan:
        if instruction[0] == "sheet":
            packets = packets + [sheet_packet(sheet_count, instruction[1], instruction[2])]
            sheet_count += 1
        else:
            packets = work(packets, instruction)
    return packets


def packets_left(plan):
    """Return the list of the packets that a plan leaves, or None if it fails."""
    if panel_count(sheets_of(plan)) > MOST_PANELS:
        raise Refused("too many panels")
    try:
        return carry_out(plan)
    except Refused:
        return None


def is_single_cell(packets):
    """Return whether these are exactly one packet, with a single cell."""
    return [size_of(packet) for packet in packets] == [(1, 1)]


def evaluate(plan):
    """Return the list of the packets that a plan leaves."""
    packets = packets_left(plan)
    if packets is None:
        raise Refused("plan fails")
    return packets


def is_complete(plan):
    """Return whether a plan does not fail and leaves exactly one packet with a single cell."""
    packets = packets_left(plan)
    return packets is not None and is_single_cell(packets)


def leaf_order(plan):
    """Return the tuple of the leaves of the book that a complete plan makes, from the top."""
    packets = evaluate(plan)
    if not is_single_cell(packets):
        raise Refused("plan is not complete")
    return packets[0][0][0]
