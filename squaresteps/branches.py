"""Where a settled board is to be parted, so that few parts come to nothing.

A branch is a digit, a cell, and how many digits would do there alike.
"""


def branches_of(board):
    # The diagonals hang on all else: left to the end, they would bring most parts to nothing.
    crowded = board.open_cells & board.layout.crowded
    if crowded != 0:
        return branches_at(board, narrowest_cell(board, crowded))
    pairs = cells_with_two(board)
    if pairs != 0:
        return branches_at(board, pairs & -pairs)
    return two_places(board) or branches_at(board, narrowest_cell(board, board.open_cells))


def cells_with_two(board):
    once = 0
    twice = 0
    thrice = 0
    for places in board.places:
        thrice |= twice & places
        twice |= once & places
        once |= places
    return twice & ~thrice


def branches_at(board, cell):
    # Digits with the same places can change their names: what follows from one follows from each.
    alike = {}
    for places in board.places:
        if places & cell:
            alike[places] = alike.get(places, 0) + 1
    return [(board.places.index(places), cell, times) for places, times in alike.items()]


def two_places(board):
    """The first digit that has just two places in a unit; empty if there is none."""
    for digit, places in enumerate(board.places):
        for unit in board.wants[digit]:
            inside = places & unit
            upper = inside & (inside - 1)
            if upper and not upper & (upper - 1):
                return [(digit, inside ^ upper, 1), (digit, upper, 1)]
    return []


def narrowest_cell(board, cells):
    narrowest = 0
    fewest = board.layout.n + 1
    left = cells
    while left != 0:
        cell = left & -left
        left ^= cell
        many = len(board.digits_at(cell))
        if many < fewest:
            fewest = many
            narrowest = cell
    return narrowest
