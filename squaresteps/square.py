"""A square: its size, its units, and what is given in it."""

from squaresteps.layout import layout_of
from squaresteps.search import Search
from squaresteps.units import some_digit_twice
from squaresteps.units import units_of


def can_be_square(n, diagonals, region):
    if not (2 <= n <= 9 and 0 <= diagonals <= 1):
        return False
    if len(region) != n * n:
        return False
    # n regions of n cells each leave no cell over, so no other number can be among them.
    return all([region.count(number) == n for number in range(n)])


class Square:
    def __init__(self, n, diagonals, region):
        self.n = n
        self.units = units_of(n, diagonals, region)
        self.givens = [0] * (n * n)
        self.layout = layout_of(n, self.units)
        self.search = Search(self.layout)

    def has_place(self, row, column):
        return 1 <= row <= self.n and 1 <= column <= self.n

    def is_digit_or_none(self, digit):
        return 0 <= digit <= self.n

    def can_be_cells(self, cells):
        if len(cells) != self.n * self.n:
            return False
        return all([self.is_digit_or_none(digit) for digit in cells])

    def givens_with(self, row, column, digit):
        cells = list(self.givens)
        cells[(row - 1) * self.n + column - 1] = digit
        return cells

    def replace_givens(self, cells):
        """Says whether it was done: it isn't if a unit would have a digit twice."""
        if some_digit_twice(self.units, cells):
            return False
        self.givens = list(cells)
        return True
