"""The units of a square; a cell is its place in the order of cells, from 0."""


def units_of(n, diagonals, region):
    units = rows_of(n) + columns_of(n) + regions_of(n, region)
    if diagonals == 1:
        units = units + diagonals_of(n)
    return units


def rows_of(n):
    return [list(range(row * n, row * n + n)) for row in range(n)]


def columns_of(n):
    return [list(range(column, n * n, n)) for column in range(n)]


def regions_of(n, region):
    return [cells_of_region(number, region) for number in range(n)]


def cells_of_region(number, region):
    return [cell for cell in range(len(region)) if region[cell] == number]


def diagonals_of(n):
    # The other diagonal ends ahead of the last cell, which its stride would reach too.
    return [list(range(0, n * n, n + 1)), list(range(n - 1, n * n - 1, n - 1))]


def some_digit_twice(units, cells):
    return any([unit_has_twice(unit, cells) for unit in units])


def unit_has_twice(unit, cells):
    digits = [cells[cell] for cell in unit if cells[cell] != 0]
    return len(set(digits)) < len(digits)
