"""Writes calls as the desk takes them, and parts its answers by call."""

from squaresteps.desk import answers

START = [1]


def put(n, diagonals, region):
    """A call of sq_set."""
    return [2, n, diagonals, len(region)] + region


def load(cells):
    return [3, len(cells)] + cells


def give(row, column, digit):
    return [4, row, column, digit]


def cells(room=1048576):
    return [5, room]


def count(most=1000000):
    return [6, most]


def tell(k, room=1048576):
    return [7, k, room]


def may(room=1048576):
    return [8, room]


def spare(room=1048576):
    return [9, room]


def steps(room=1048576):
    return [10, room]


def rows_as_regions(n):
    """Regions that add nothing to the rows."""
    return [cell // n for cell in range(n * n)]


def boxes(n, height, width):
    across = n // width
    return [cell // n // height * across + cell % n // width for cell in range(n * n)]


def blank(n, **digits):
    """Cells with some digits: blank(4, r1c2=3)."""
    made = [0] * (n * n)
    for name, digit in digits.items():
        made[(int(name[1]) - 1) * n + int(name[3]) - 1] = digit
    return made


def drawn(*rows):
    """Cells from rows of signs, a point for each cell that is not given."""
    return [0 if sign == "." else int(sign) for row in rows for sign in row]


def cyclic(n):
    """Regions that have one cell in each row and column."""
    return [(cell // n + cell % n) % n for cell in range(n * n)]


def joined(calls):
    return [number for call in calls for number in call]


def parted(told):
    """What each call answered, told by how many numbers the desk says there are."""
    each = []
    place = 0
    while place < len(told):
        length = told[place]
        each.append(told[place + 1:place + 1 + length])
        place += 1 + length
    if place != len(told):
        raise ValueError("the last answer is shorter than told")
    return each


def run(*calls):
    """The answers of calls behind a sq_start, whose own answer is left out."""
    return parted(answers(joined((START,) + calls)))[1:]


def last(*calls):
    return run(*calls)[-1]


def told(made):
    """How these bytes are answered."""
    return [len(made)] + made


def told_lines(*lines):
    """How these lines are answered."""
    return told([ord(sign) for line in lines for sign in line + "\n"])
