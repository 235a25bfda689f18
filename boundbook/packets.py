"""Packets: how they are turned, cut, folded, stacked and piled (points 25 and 26)."""

from boundbook.errors import Refused
from boundbook.layers import turn_layer

EDGES = ("left", "right", "top", "bottom")


def sheet_packet(number, rows, columns):
    """Return the packet of a flat sheet that lies with its front up."""
    packet = []
    for row in range(rows):
        packet.append(tuple([((number, row, column, False, False),) for column in range(columns)]))
    return tuple(packet)


def size_of(packet):
    """Return how many rows and columns a packet has; a side of a print has them, too."""
    return (len(packet), len(packet[0]))


def turn_cell(cell, axis):
    """Return the layers of a cell that has been turned."""
    layers = tuple([turn_layer(layer, axis) for layer in cell])
    # Turned over twice, about both axes, the lowest layer lies at the bottom again.
    return layers if axis == "both" else layers[::-1]


def turn(packet, axis):
    """Return the packet turned about an axis, or about both."""
    rows = packet if axis == "vertical" else packet[::-1]
    step = 1 if axis == "horizontal" else -1
    return tuple([tuple([turn_cell(cell, axis) for cell in row[::step]]) for row in rows])


def is_inside(packet, edge, line):
    """Return whether a line at an edge is inside of the packet: whether there is a rest."""
    rows, columns = size_of(packet)
    return line < (columns if edge in ("left", "right") else rows)


def columns_from(packet, first, behind):
    """Return the columns of a packet from first up to, but without, behind."""
    return tuple([row[first:behind] for row in packet])


def divide(packet, edge, line):
    """Return the rest of a packet, and its part at an edge with a line that is inside."""
    rows, columns = size_of(packet)
    if edge == "left":
        return (columns_from(packet, line, columns), columns_from(packet, 0, line))
    if edge == "right":
        return (columns_from(packet, 0, columns - line), columns_from(packet, columns - line, columns))
    if edge == "top":
        return (packet[line:], packet[:line])
    return (packet[:rows - line], packet[rows - line:])


def cut(packet, edge, line):
    """Return the rest and the part; raise Refused unless the line is inside of the packet."""
    if not is_inside(packet, edge, line):
        raise Refused("line outside the packet")
    return divide(packet, edge, line)


def lay_row(upper, lower):
    """Return the cells of a row on those of another one, both aligned at the left."""
    both = tuple([above + below for above, below in zip(upper, lower)])
    return both + upper[len(both):] + lower[len(both):]


def lay(upper, lower):
    """Return a packet on another one, both aligned at the left and at the top."""
    both = tuple([lay_row(above, below) for above, below in zip(upper, lower)])
    return both + upper[len(both):] + lower[len(both):]


def backwards(packet):
    """Return the cells in the opposite order of rows and columns, none of them turned."""
    return tuple([row[::-1] for row in packet[::-1]])


def lay_at(part, rest, edge, way):
    """Return the part over or under the rest, both aligned at an edge."""
    upper, lower = (part, rest) if way == "over" else (rest, part)
    if edge in ("left", "top"):
        return lay(upper, lower)
    # They have as many rows (columns) as each other, so this aligns them at the right (bottom).
    return backwards(lay(backwards(upper), backwards(lower)))


def fold(packet, edge, line, way):
    """Return the packet with its part at an edge folded over or under the rest."""
    rest, part = cut(packet, edge, line)
    axis = "vertical" if edge in ("left", "right") else "horizontal"
    return lay_at(turn(part, axis), rest, edge, way)


def stack(packet, edge, line, way):
    """Return the packet with its part at an edge laid over or under the rest as it lies."""
    rest, part = cut(packet, edge, line)
    return lay_at(part, rest, edge, way)


def pile(packets):
    """Return the pile of packets of one size, the first one on top."""
    if any([size_of(packet) != size_of(packets[0]) for packet in packets]):
        raise Refused("packets differ in size")
    piled = packets[0]
    for packet in packets[1:]:
        piled = lay(piled, packet)
    return piled
