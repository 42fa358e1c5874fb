"""Finds cells that have the same digit in every filling, for reasons that lie in the units alone.

Take any one digit, and count a cell as 1 where it stands, else as 0. Each unit has it once, so that one unit less
another is 0, and so is whatever such differences add up to. If they add up to one cell less another, the two cells
are alike for each digit: they are twins.
"""

# Numbers are taken by what is left of them when divided by this prime, 2 ** 61 - 1, which keeps them small. Nothing
# becomes 0 by that: a difference has at most 18 cells, at most 28 of them and one pair of cells come together, and a
# determinant made of these is at most 18 ** 14 * 2 by Hadamard's bound.
PRIME = 2305843009213693951


def sets_with_twins(n, unit_sets):
    """The units, and what becomes of them if a cell gives way to its twin; with an empty set there is no filling."""
    found = []
    for unit in unit_sets:
        add_new(found, unit)
    for twins in twins_among(n, unit_sets):
        for cell in twins:
            for twin in twins:
                if cell != twin:
                    add_with_twin(found, unit_sets, 1 << cell, 1 << twin)
    return found


def add_with_twin(found, unit_sets, cell, twin):
    for unit in unit_sets:
        if unit & cell and unit & twin:
            # Twins can't be in one unit: nothing has a place in an empty set.
            add_new(found, 0)
        elif unit & cell:
            add_new(found, unit & ~cell | twin)


def add_new(found, unit):
    if unit not in found:
        found.append(unit)


def twins_among(n, unit_sets):
    """Lists of cells that are twins of one another."""
    reduced = reduced_differences(n, unit_sets)
    alike = {}
    for cell in range(n * n):
        alike.setdefault(in_other_cells(n, reduced, cell), []).append(cell)
    return [cells for cells in alike.values() if len(cells) > 1]


def in_other_cells(n, reduced, cell):
    """What a cell is equal to, told by cells that no difference was solved for."""
    if cell in reduced:
        rest = [-number % PRIME for number in reduced[cell]]
        rest[cell] = 0
    else:
        rest = [0] * (n * n)
        rest[cell] = 1
    return tuple(rest)


def reduced_differences(n, unit_sets):
    """The differences solved for one cell each, which none of the others has."""
    reduced = {}
    for unit in unit_sets:
        row = difference(n, unit, unit_sets[0])
        for cell in list(reduced):
            row = without(row, reduced[cell], cell)
        solved = [cell for cell in range(n * n) if row[cell] != 0]
        if len(solved) > 0:
            first = solved[0]
            factor = inverse(row[first])
            row = [number * factor % PRIME for number in row]
            for cell in list(reduced):
                reduced[cell] = without(reduced[cell], row, first)
            reduced[first] = row
    return reduced


def difference(n, unit, other):
    return [((unit >> cell & 1) - (other >> cell & 1)) % PRIME for cell in range(n * n)]


def without(row, solved, cell):
    """The row less so much of the solved one that the cell it is solved for is 0."""
    factor = row[cell]
    if factor == 0:
        return row
    return [(number - factor * part) % PRIME for number, part in zip(row, solved)]


def inverse(number):
    # By Fermat, the power PRIME - 2; it is taken by squaring.
    power = 1
    left = PRIME - 2
    while left != 0:
        if left & 1:
            power = power * number % PRIME
        number = number * number % PRIME
        left >>= 1
    return power
