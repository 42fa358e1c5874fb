"""Goes through the fillings of a board in their order."""


def filling_numbered(search, board, number):
    """The filling as a board without an open cell; None if there are not so many."""
    if search.count_up_to(board, 1) == 0:
        return None
    walk = Walk(search, number)
    while board is not None:
        filled = walk.first_filling(board)
        if walk.ahead == 0:
            return filled
        walk.ahead -= 1
        board = walk.climb()
    return None


class Turn:
    """A settled board, and which digits are still to be tried in its first open cell."""

    def __init__(self, board):
        self.board = board
        # What is settled is the same in all fillings, so the first open cell decides their order.
        self.cell = board.open_cells & -board.open_cells
        self.untried = board.digits_at(self.cell)

    def next_board(self):
        return self.board.with_digit(self.untried.pop(0), self.cell)


class Walk:
    def __init__(self, search, number):
        self.search = search
        # How many fillings are still to be passed before the one that is asked for.
        self.ahead = number
        # From the first board down to the filling that was met last.
        self.turns = []

    def first_filling(self, board):
        """The board has to be settled and to have a filling."""
        while board.open_cells != 0:
            turn = Turn(board)
            self.turns.append(turn)
            board = turn.next_board()
            while self.search.count_up_to(board, 1) == 0:
                board = turn.next_board()
        return board

    def climb(self):
        """The next board, settled, that has more fillings than are to be passed; smaller ones are passed as a whole."""
        while len(self.turns) > 0:
            turn = self.turns[-1]
            while len(turn.untried) > 0:
                board = turn.next_board()
                many = self.search.count_up_to(board, self.ahead + 1)
                if many > self.ahead:
                    return board
                self.ahead -= many
            self.turns.pop()
        return None
