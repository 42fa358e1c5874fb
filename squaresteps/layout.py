"""The units of a square as sets of cells, and which cells they link."""

from squaresteps.bits import bits_of
from squaresteps.twins import sets_with_twins


class Layout:
    def __init__(self, n, unit_sets, crowded):
        """Crowded are the cells that are in more units than others."""
        self.n = n
        self.every_cell = (1 << (n * n)) - 1
        self.unit_sets = unit_sets
        self.crowded = crowded
        # Of each cell, as a set of its own: the cells that are not linked with it, itself among them.
        self.unlinked = {}
        for cell in range(n * n):
            self.unlinked[1 << cell] = self.every_cell & ~linked_cells(1 << cell, unit_sets)


def layout_of(n, units):
    """The units are those of a square, the diagonals last."""
    crowded = 0
    for unit in units[3 * n:]:
        crowded |= bits_of(unit)
    return Layout(n, [bits_of(unit) for unit in units], crowded)


def layout_with_twins(layout):
    """A layout with the same fillings, whose contradictions show earlier."""
    return Layout(layout.n, sets_with_twins(layout.n, layout.unit_sets), layout.crowded)


def linked_cells(cell, unit_sets):
    linked = 0
    for unit in unit_sets:
        if unit & cell != 0:
            linked |= unit
    return linked & ~cell
