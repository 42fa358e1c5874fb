"""What the calls do to their one object; each answers its numbers as a list."""

from squaresteps.replies import DONE
from squaresteps.replies import NO_SQUARE
from squaresteps.replies import TWICE
from squaresteps.replies import WRONG
from squaresteps.replies import is_room
from squaresteps.replies import told_bytes
from squaresteps.square import Square
from squaresteps.square import can_be_square


class Session:
    def __init__(self):
        self.square = None

    def sq_start(self):
        self.square = None
        return [DONE]

    def sq_set(self, n, diagonals, region):
        if not can_be_square(n, diagonals, region):
            return [WRONG]
        self.square = Square(n, diagonals, region)
        return [DONE]

    def sq_load(self, cells):
        if self.square is None:
            return [NO_SQUARE]
        if not self.square.can_be_cells(cells):
            return [WRONG]
        return self.give_instead(cells)

    def sq_give(self, row, column, digit):
        if self.square is None:
            return [NO_SQUARE]
        if not (self.square.has_place(row, column) and self.square.is_digit_or_none(digit)):
            return [WRONG]
        return self.give_instead(self.square.givens_with(row, column, digit))

    def sq_cells(self, room):
        if self.square is None:
            return [NO_SQUARE]
        if not is_room(room):
            return [WRONG]
        return told_bytes(self.square.givens, room)

    def give_instead(self, cells):
        if self.square.replace_givens(cells):
            return [DONE]
        return [TWICE]
