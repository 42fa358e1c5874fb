"""The steps that put a digit into a cell."""

from squaresteps.bits import places_in
from squaresteps.names import cell_names
from squaresteps.names import unit_name
from squaresteps.sheet import Step


def lone_candidate_step(sheet):
    for place in places_in(sheet.open_cells):
        cell = 1 << place
        candidates = sheet.candidates_of(cell)
        if len(candidates) == 1:
            return put_step(sheet, candidates[0], cell, "alone")
    return None


def lone_place_step(sheet):
    for place, unit in enumerate(sheet.unit_sets):
        for digit in sheet.digits:
            cell = sheet.places[digit] & unit
            if cell != 0 and cell & (cell - 1) == 0:
                name = unit_name(sheet.n, place)
                return put_step(sheet, digit, cell, f"in {name}")
    return None


def put_step(sheet, digit, cell, reason):
    name = cell_names(sheet.n, cell)
    return Step(f"{name}={digit} {reason}", [(digit, cell)], [])
