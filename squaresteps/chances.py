"""Finds out which digits stand in which cells in some filling."""


class Chances:
    def __init__(self, search, board):
        """The board has to be settled and to have a filling."""
        self.search = search
        self.board = board
        self.kinds = kinds_of_digits(board)
        self.changeable = board.open_cells
        # Of each digit: the cells where it stands in some filling.
        self.shown = list(board.stands)

    def show_all(self):
        for alike in self.kinds:
            self.show_places(alike)

    def show_places(self, alike):
        digit = alike[0]
        left = self.board.places[digit] & ~self.shown[digit]
        while left != 0:
            cell = left & -left
            filled = self.search.find_filling(self.board.with_digit(digit, cell))
            if filled is None:
                self.rule_out(alike, cell)
            else:
                self.note(filled)
            left = self.board.places[digit] & ~self.shown[digit]

    def note(self, filled):
        for alike in self.kinds:
            cells = 0
            for digit in alike:
                cells |= filled.stands[digit]
            for digit in alike:
                self.shown[digit] |= cells & self.changeable

    def rule_out(self, alike, cell):
        # The board still has a filling, and what is settled now makes later searches shorter.
        for digit in alike:
            self.board.bar(digit, cell)
        self.board.settle()
        self.note(self.board)

    def digit_sets(self):
        """Of each cell the set of the digits shown there, with the digit d as the bit d - 1."""
        size = self.board.layout.n * self.board.layout.n
        return [digit_set(self.shown, cell) for cell in range(size)]


def kinds_of_digits(board):
    """Parts the digits by their places: those with the same can change their names in the open cells."""
    kinds = {}
    for digit, places in enumerate(board.places):
        kinds.setdefault(places, []).append(digit)
    return list(kinds.values())


def digit_set(shown, cell):
    bits = 0
    for digit, cells in enumerate(shown):
        if cells >> cell & 1:
            bits |= 1 << digit
    return bits
