"""Counts and finds the fillings of the boards of one square."""

from squaresteps.board import starting_board
from squaresteps.branches import branches_of
from squaresteps.layout import layout_with_twins

# Bounds the memory that a long search takes.
MOST_KNOWN = 100000


class Search:
    def __init__(self, layout):
        self.plain_layout = layout
        # Made once it is needed: squares may be set without a question about their fillings.
        self.layout = None
        # How many fillings settled boards have, by their keys; below 0: at least as many as its opposite.
        self.known = {}

    def start(self, givens):
        if self.layout is None:
            self.layout = layout_with_twins(self.plain_layout)
        return starting_board(self.layout, givens)

    def count_up_to(self, board, most):
        """How many fillings there are; from most on it may be fewer than there are."""
        if not board.settle():
            return 0
        if board.open_cells == 0:
            return 1
        key = board.key()
        told = self.known.get(key)
        if told is not None and (told >= 0 or -told >= most):
            return abs(told)
        total = 0
        for digit, cell, times in branches_of(board):
            if total < most:
                enough = (most - total + times - 1) // times
                total += times * self.count_up_to(board.with_digit(digit, cell), enough)
        self.remember(key, total if total < most else -total)
        return total

    def find_filling(self, board):
        """Some filling, as a board without an open cell; None if there is none."""
        if not board.settle():
            return None
        if board.open_cells == 0:
            return board
        key = board.key()
        if self.known.get(key) == 0:
            return None
        for digit, cell, times in branches_of(board):
            found = self.find_filling(board.with_digit(digit, cell))
            if found is not None:
                return found
        self.remember(key, 0)
        return None

    def remember(self, key, told):
        if len(self.known) >= MOST_KNOWN:
            self.known.clear()
        self.known[key] = told
