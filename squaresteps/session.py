"""What the calls do to their one object; each answers its numbers as a list."""

from squaresteps.fillings import chance_bytes
from squaresteps.fillings import count_fillings
from squaresteps.fillings import filling_bytes
from squaresteps.fillings import spare_bytes
from squaresteps.replies import DONE
from squaresteps.replies import NO_FILLING
from squaresteps.replies import NO_SQUARE
from squaresteps.replies import TWICE
from squaresteps.replies import WRONG
from squaresteps.replies import is_room
from squaresteps.replies import told_bytes
from squaresteps.square import Square
from squaresteps.square import can_be_square
from squaresteps.steps import step_bytes

MOST_COUNTED = 1000000
LAST_NUMBER = 1000000


class Session:
    def __init__(self):
        self.square = None

    def sq_start(self):
        self.square = None
        return [DONE]

    def sq_set(self, n, diagonals, region):
        if not can_be_square(n, diagonals, region):
            return [WRONG]
        self.square = Square(n, diagonals, region)
        return [DONE]

    def sq_load(self, cells):
        if self.square is None:
            return [NO_SQUARE]
        if not self.square.can_be_cells(cells):
            return [WRONG]
        return self.give_instead(cells)

    def sq_give(self, row, column, digit):
        if self.square is None:
            return [NO_SQUARE]
        if not (self.square.has_place(row, column) and self.square.is_digit_or_none(digit)):
            return [WRONG]
        return self.give_instead(self.square.givens_with(row, column, digit))

    def sq_cells(self, room):
        return self.tell(room, lambda square: square.givens)

    def sq_count(self, most):
        if self.square is None:
            return [NO_SQUARE]
        if not 1 <= most <= MOST_COUNTED:
            return [WRONG]
        return [count_fillings(self.square, most)]

    def sq_tell(self, k, room):
        if self.square is None:
            return [NO_SQUARE]
        if not 0 <= k <= LAST_NUMBER:
            return [WRONG]
        return self.tell(room, lambda square: filling_bytes(square, k))

    def sq_may(self, room):
        return self.tell(room, chance_bytes)

    def sq_spare(self, room):
        return self.tell(room, spare_bytes)

    def sq_steps(self, room):
        return self.tell(room, step_bytes)

    def give_instead(self, cells):
        if self.square.replace_givens(cells):
            return [DONE]
        return [TWICE]

    def tell(self, room, bytes_about):
        """Bytes_about makes the bytes from the square; None if there is no such filling."""
        if self.square is None:
            return [NO_SQUARE]
        if not is_room(room):
            return [WRONG]
        told = bytes_about(self.square)
        if told is None:
            return [NO_FILLING]
        return told_bytes(told, room)
