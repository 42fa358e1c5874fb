"""The steps by which cells of a unit lose digits."""

from squaresteps.bits import bits_of
from squaresteps.bits import places_in
from squaresteps.choices import choices_of
from squaresteps.names import cell_name
from squaresteps.names import cell_names
from squaresteps.names import unit_name
from squaresteps.sheet import Step


def shared_cells_step(sheet):
    """A digit of one unit stands in cells of another one in any case, so that it stands nowhere else there."""
    for one in range(len(sheet.unit_sets)):
        for other in range(len(sheet.unit_sets)):
            if one != other:
                step = shared_by_two(sheet, one, other)
                if step is not None:
                    return step
    return None


def shared_by_two(sheet, one, other):
    first = sheet.unit_sets[one]
    second = sheet.unit_sets[other]
    if first & second == 0:
        return None
    for digit in sheet.digits:
        places = sheet.places[digit]
        losers = places & second & ~first
        if losers and places & first and not places & first & ~second:
            first_name = unit_name(sheet.n, one)
            second_name = unit_name(sheet.n, other)
            names = cell_names(sheet.n, losers)
            return Step(f"{digit} of {first_name} in {second_name}: {names}", [], [(digit, losers)])
    return None


def group_step(sheet, size):
    """So many cells of a unit have as many digits, which no other cell of the unit can have then."""
    for place, unit in enumerate(sheet.unit_sets):
        for group in groups_in(sheet, unit & sheet.open_cells, size):
            digits = digits_of_group(sheet, group)
            losses = losses_to_group(sheet, unit & ~group, digits)
            if len(digits) == size and len(losses) > 0:
                return told_group(sheet, place, group, losses, digits)
    return None


def groups_in(sheet, cells, size):
    # A cell with more digits can't be of the group, and most choices are saved without it.
    few = [cell for cell in places_in(cells) if len(sheet.candidates_of(1 << cell)) <= size]
    return [bits_of(group) for group in choices_of(few, size)]


def digits_of_group(sheet, group):
    return [digit for digit in sheet.digits if sheet.places[digit] & group]


def losses_to_group(sheet, others, digits):
    return [(digit, sheet.places[digit] & others) for digit in digits if sheet.places[digit] & others]


def told_group(sheet, place, group, losses, digits):
    told = []
    for cell in places_in(losing_cells(losses)):
        for digit, cells in losses:
            if cells >> cell & 1:
                name = cell_name(sheet.n, cell)
                told.append(f"{name}-{digit}")
    names = cell_names(sheet.n, group)
    together = "".join([str(digit) for digit in digits])
    unit = unit_name(sheet.n, place)
    losers = " ".join(told)
    return Step(f"{names} have {together} in {unit}: {losers}", [], losses)


def losing_cells(losses):
    found = 0
    for digit, cells in losses:
        found |= cells
    return found
