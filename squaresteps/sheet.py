"""What is known of a square while it is reasoned out step by step; cells are sets of bits here."""


class Step:
    def __init__(self, line, puts, losses):
        """Puts and losses are pairs of a digit and the cells that it is put into, or that lose it."""
        self.line = line
        self.puts = puts
        self.losses = losses


class Sheet:
    def __init__(self, square):
        self.n = square.n
        self.unit_sets = square.layout.unit_sets
        self.unlinked = square.layout.unlinked
        self.open_cells = square.layout.every_cell
        self.digits = list(range(1, square.n + 1))
        # By digit: the open cells that have it as a candidate, and the cells in which it stands.
        self.places = {}
        self.stands = {}
        for digit in self.digits:
            self.places[digit] = self.open_cells
            self.stands[digit] = 0
        for cell, digit in enumerate(square.givens):
            if digit != 0:
                self.put(digit, 1 << cell)

    def put(self, digit, cell):
        for other in self.digits:
            self.places[other] &= ~cell
        self.places[digit] &= self.unlinked[cell]
        self.stands[digit] |= cell
        self.open_cells &= ~cell

    def take(self, step):
        for digit, cell in step.puts:
            self.put(digit, cell)
        for digit, cells in step.losses:
            self.places[digit] &= ~cells

    def has_no_filling(self):
        """Says whether a cell has nothing left, or a unit has no place left for a digit."""
        candidates = 0
        for digit in self.digits:
            candidates |= self.places[digit]
            cells = self.places[digit] | self.stands[digit]
            if not all([cells & unit for unit in self.unit_sets]):
                return True
        return candidates != self.open_cells

    def candidates_of(self, cell):
        """Upwards."""
        return [digit for digit in self.digits if self.places[digit] & cell]
