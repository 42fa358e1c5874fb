"""The steps by which a digit's places in some rows rule it out elsewhere in their columns, and the other way round."""

from squaresteps.choices import choices_of
from squaresteps.names import cell_names
from squaresteps.sheet import Step


def line_step(sheet, size):
    rows = Lines("rows", sheet.unit_sets[:sheet.n])
    columns = Lines("columns", sheet.unit_sets[sheet.n:2 * sheet.n])
    return step_across(sheet, size, rows, columns) or step_across(sheet, size, columns, rows)


class Lines:
    def __init__(self, word, cell_sets):
        self.word = word
        self.cell_sets = cell_sets

    def lines_with(self, cells):
        """The places of those that have some of the cells."""
        return [place for place, line in enumerate(self.cell_sets) if line & cells]

    def cells_of(self, places):
        cells = 0
        for place in places:
            cells |= self.cell_sets[place]
        return cells

    def told(self, places):
        numbers = " ".join([str(place + 1) for place in places])
        word = self.word
        return f"{word} {numbers}"


def step_across(sheet, size, lines, crossing):
    for digit in sheet.digits:
        for chosen in choices_of(lines_with_few(sheet.places[digit], size, lines, crossing), size):
            inside = lines.cells_of(chosen)
            crossed = crossing.lines_with(sheet.places[digit] & inside)
            losers = sheet.places[digit] & crossing.cells_of(crossed) & ~inside
            if len(crossed) == size and losers != 0:
                of = lines.told(chosen)
                across = crossing.told(crossed)
                names = cell_names(sheet.n, losers)
                return Step(f"{digit} of {of} in {across}: {names}", [], [(digit, losers)])
    return None


def lines_with_few(places, size, lines, crossing):
    # A line with more places can't be of those that are looked for, and most choices are saved without it.
    few = []
    for place in lines.lines_with(places):
        if len(crossing.lines_with(places & lines.cells_of([place]))) <= size:
            few.append(place)
    return few
