"""Points 6 to 9 against a filling by trial, on small squares of all sorts."""

import random
import unittest

from squaresteps.square import Square
from squaresteps.twins import twins_among
from tests.helper import boxes, cells, count, last, load, may, put, rows_as_regions, run, spare, tell, told


def linked_cells(n, diagonals, region):
    linked = [set() for cell in range(n * n)]
    for one in range(n * n):
        for other in range(n * n):
            row, column = divmod(one, n)
            other_row, other_column = divmod(other, n)
            if one != other and (
                row == other_row
                or column == other_column
                or region[one] == region[other]
                or diagonals == 1 and row == column and other_row == other_column
                or diagonals == 1 and row + column == n - 1 == other_row + other_column
            ):
                linked[one].add(other)
    return linked


def fillings(n, linked, givens):
    """All of them, in order."""
    made = list(givens)
    found = []

    def fill(cell):
        if cell == n * n:
            found.append(list(made))
        elif givens[cell] != 0:
            fill(cell + 1)
        else:
            for digit in range(1, n + 1):
                if all(made[other] != digit for other in linked[cell]):
                    made[cell] = digit
                    fill(cell + 1)
            made[cell] = 0

    fill(0)
    return found


class BruteForceTest(unittest.TestCase):
    def test_small_squares(self):
        # The same squares each time, by the seed.
        source = random.Random(20261116)
        sorts = {"none": 0, "one": 0, "more": 0}
        for trial in range(600):
            n = source.choice((2, 3, 4, 4, 4, 5))
            diagonals = source.randrange(2)
            region = self.some_region(source, n)
            linked = linked_cells(n, diagonals, region)
            givens = self.some_givens(source, n, linked)
            with self.subTest(n=n, diagonals=diagonals, region=region, givens=givens):
                many = self.check(n, diagonals, region, givens, linked)
            sorts["none" if many == 0 else "one" if many == 1 else "more"] += 1
        self.assertGreater(min(sorts.values()), 30, sorts)

    def some_region(self, source, n):
        region = boxes(4, 2, 2) if n == 4 and source.randrange(2) else rows_as_regions(n)
        for swap in range(source.choice((0, 0, 1, 2, 20))):
            one = source.randrange(n * n)
            other = source.randrange(n * n)
            region[one], region[other] = region[other], region[one]
        return region

    def some_givens(self, source, n, linked):
        givens = [0] * (n * n)
        for cell in source.sample(range(n * n), source.randrange(n * n // 2 if n == 5 else 0, n * n * 3 // 4)):
            free = [digit for digit in range(1, n + 1) if all(givens[other] != digit for other in linked[cell])]
            if free:
                givens[cell] = source.choice(free[:2])
        return givens

    def check(self, n, diagonals, region, givens, linked):
        found = fillings(n, linked, givens)
        square = (put(n, diagonals, region), load(givens))
        expected = [
            self.what_may_stand(found, n),
            self.what_can_be_spared(found, n, linked, givens),
            [min(len(found), 2)],
            [len(found)],
            told(givens),
        ]
        # What was found out for one answer must not spoil another.
        answered = run(*square, *[may(), spare(), count(2), count(), cells()] * 2)[2:]
        self.assertEqual(answered, expected * 2)
        self.check_twins(n, diagonals, region, found)
        for k in {0, 1, len(found) // 3, len(found) // 2, len(found) - 1, len(found)} - {-1}:
            self.assertEqual(last(*square, tell(k)), told(found[k]) if k < len(found) else [-3])
        return len(found)

    def check_twins(self, n, diagonals, region, found):
        for twins in twins_among(n, Square(n, diagonals, region).layout.unit_sets):
            for filling in found:
                self.assertEqual(len({filling[cell] for cell in twins}), 1)

    def what_may_stand(self, found, n):
        if len(found) == 0:
            return [-3]
        sets = [sum(1 << digit - 1 for digit in set(digits)) for digits in zip(*found)]
        return told([number for bits in sets for number in (bits % 256, bits // 256)])

    def what_can_be_spared(self, found, n, linked, givens):
        if len(found) != 1:
            return [-3]
        each = []
        for cell in range(n * n):
            others = list(givens)
            others[cell] = 0
            each.append(int(givens[cell] != 0 and len(fillings(n, linked, others)) == 1))
        return told(each)


if __name__ == "__main__":
    unittest.main()
