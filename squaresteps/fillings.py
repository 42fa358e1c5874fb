"""What is asked about the fillings of a square with what is given in it."""

from squaresteps.chances import Chances
from squaresteps.walk import filling_numbered


def board_of(square):
    return square.search.start(square.givens)


def count_fillings(square, most):
    return min(most, square.search.count_up_to(board_of(square), most))


def filling_bytes(square, number):
    """A digit for each cell; None if there is no filling with this number."""
    filled = filling_numbered(square.search, board_of(square), number)
    if filled is None:
        return None
    return filled.standing()


def chance_bytes(square):
    """Two for each cell, of the set of digits that may stand there; None if there is no filling."""
    board = board_of(square)
    filled = square.search.find_filling(board)
    if filled is None:
        return None
    chances = Chances(square.search, board)
    chances.note(filled)
    chances.show_all()
    told = []
    for digits in chances.digit_sets():
        told.append(digits & 255)
        told.append(digits >> 8)
    return told


def spare_bytes(square):
    """One for each cell: whether it could be spared; None unless there is just one filling."""
    if square.search.count_up_to(board_of(square), 2) != 1:
        return None
    return [1 if can_be_spared(square, cell) else 0 for cell in range(len(square.givens))]


def can_be_spared(square, cell):
    """The square has to have just one filling."""
    if square.givens[cell] == 0:
        return False
    others = list(square.givens)
    others[cell] = 0
    # Without this given, all further fillings have another digit in its cell.
    board = square.search.start(others)
    board.bar(square.givens[cell] - 1, 1 << cell)
    return square.search.find_filling(board) is None
