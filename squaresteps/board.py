"""A square that is filled in part: what stands, and where else each digit may stand.

Cells are sets of bits here, and a digit is counted from 0: the digit 1 is 0.
"""

from squaresteps.bits import places_in


def starting_board(layout, givens):
    places = [layout.every_cell & ~cells_of_others(givens, digit) for digit in range(1, layout.n + 1)]
    wants = [layout.unit_sets for digit in range(layout.n)]
    # No set of places is -1, so every digit counts as changed since it was looked through.
    return Board(layout, places, wants, [0] * layout.n, layout.every_cell, [-1] * layout.n)


def cells_of_others(givens, digit):
    cells = 0
    for cell, given in enumerate(givens):
        if given != 0 and given != digit:
            cells |= 1 << cell
    return cells


class Board:
    def __init__(self, layout, places, wants, stands, open_cells, checked):
        self.layout = layout
        # Of each digit: the open cells where it may stand, the units that lack it, the cells where it stands.
        self.places = places
        self.wants = wants
        self.stands = stands
        self.open_cells = open_cells
        # Of each digit: its places when its units were last looked through.
        self.checked = checked

    def with_digit(self, digit, cell):
        """Another board, in which the digit is put into the cell; this one has to be settled."""
        places = [cells & ~cell for cells in self.places]
        left = self.open_cells & ~cell
        board = Board(self.layout, places, list(self.wants), list(self.stands), left, list(self.places))
        board.put(digit, cell)
        return board

    def bar(self, digit, cell):
        self.places[digit] &= ~cell

    def put(self, digit, cells):
        """Says whether no two of the cells are linked."""
        keep = self.places[digit]
        left = cells
        while left != 0:
            cell = left & -left
            keep &= self.layout.unlinked[cell]
            left ^= cell
        self.places[digit] = keep & ~cells
        self.wants[digit] = [unit for unit in self.wants[digit] if not unit & cells]
        self.stands[digit] |= cells
        return keep & cells == cells

    def settle(self):
        """Puts whatever can only stand in one way; says whether no contradiction was met."""
        while self.open_cells != 0:
            once = 0
            twice = 0
            for cells in self.places:
                twice |= once & cells
                once |= cells
            if once != self.open_cells:
                return False
            if once != twice:
                if not self.put_lone(once & ~twice):
                    return False
            else:
                pins = self.find_pins()
                if pins is None:
                    return False
                if not any(pins):
                    return True
                self.pin_down(pins)
        return True

    def put_lone(self, lone):
        """Puts the digits of cells that have one left; says whether no two linked cells have the same."""
        self.open_cells &= ~lone
        for digit, places in enumerate(list(self.places)):
            if places & lone and not self.put(digit, places & lone):
                return False
        return True

    def find_pins(self):
        """Of each digit the cells that are its last in a unit; None if it has no cell left, or two share one."""
        pins = []
        pinned = 0
        for digit, places in enumerate(self.places):
            own = 0
            if places != self.checked[digit]:
                self.checked[digit] = places
                for unit in self.wants[digit]:
                    inside = places & unit
                    if not inside & (inside - 1):
                        if inside == 0:
                            return None
                        own |= inside
                if own & pinned:
                    return None
                pinned |= own
            pins.append(own)
        return pins

    def pin_down(self, pins):
        pinned = 0
        for own in pins:
            pinned |= own
        self.places = [places & ~pinned | own for places, own in zip(self.places, pins)]

    def key(self):
        # Digits can change their names without changing how many fillings there are, hence the sorting.
        return tuple(sorted(self.places))

    def digits_at(self, cell):
        return [digit for digit, places in enumerate(self.places) if places & cell]

    def standing(self):
        """The cells in order, each as the digit that stands there, from 1; 0 for none."""
        cells = [0] * (self.layout.n * self.layout.n)
        for digit, stands in enumerate(self.stands):
            for cell in places_in(stands):
                cells[cell] = digit + 1
        return cells
