"""Binderies: printed sheets that are placed and worked on step by step (points 38 and 39)."""

from boundbook.errors import Refused
from boundbook.imposition import read_layers, sizes_of
from boundbook.packets import sheet_packet, size_of
from boundbook.plans import MOST_PANELS, is_single_cell, panel_count, work

MOST_STEPS = 60


class Bindery:
    """A table with packets, the prints that were placed on it, and its steps."""

    def __init__(self):
        self._steps = []
        self._prints = []
        # The packets on the table before the first step, and behind each one, so that steps can
        # be taken back. No list in here is changed.
        self._packets = [[]]

    def place(self, sheet):
        """Place a printed sheet, front up, and return the number of packets."""
        self._check_steps()
        if panel_count(sizes_of(self._prints + [sheet])) > MOST_PANELS:
            raise Refused("too many panels")
        rows, columns = size_of(sheet[0])
        packet = sheet_packet(len(self._prints), rows, columns)
        self._prints.append(sheet)
        self._add(("sheet", rows, columns), self._packets[-1] + [packet])
        return self.packet_count()

    def work(self, step):
        """Carry out an instruction that is no sheet, and return the list of the sizes of all packets."""
        self._check_steps()
        self._add(tuple(step), work(self._packets[-1], step))
        return self.sizes()

    def undo(self):
        """Take the last step back, and return the number of steps that are left."""
        if not self._steps:
            raise Refused("nothing to undo")
        if self._steps[-1][0] == "sheet":
            self._prints.pop()
        self._steps.pop()
        self._packets.pop()
        return len(self._steps)

    def packet_count(self):
        """Return the number of packets on the table."""
        return len(self._packets[-1])

    def sizes(self):
        """Return the list of the sizes of all packets."""
        return [size_of(packet) for packet in self._packets[-1]]

    def plan(self):
        """Return the list of the steps, in which a print counts as its sheet."""
        return list(self._steps)

    def top_view(self):
        """Return the rows of the marks that are seen on the last packet from above."""
        rows = []
        for row in self._last_packet():
            rows.append([read_layers(cell[:1], self._prints)[0] for cell in row])
        return rows

    def read(self):
        """Return the list of the marks on the leaves of the last packet."""
        packet = self._last_packet()
        if not is_single_cell([packet]):
            raise Refused("packet is not complete")
        return read_layers(packet[0][0], self._prints)

    def _check_steps(self):
        if len(self._steps) >= MOST_STEPS:
            raise Refused("too many steps")

    def _add(self, step, packets):
        self._steps.append(step)
        self._packets.append(packets)

    def _last_packet(self):
        if not self._packets[-1]:
            raise Refused("no packet")
        return self._packets[-1][-1]


def finished_marks(sheet, steps):
    """Return the marks that are read when a printed sheet is finished by these steps."""
    bindery = Bindery()
    bindery.place(sheet)
    for step in steps:
        bindery.work(step)
    return bindery.read()
