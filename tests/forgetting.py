"""What is told, for the tests: by listing runs of small worlds, and by rows of numbers for large ones."""

import itertools
from fractions import Fraction

from helpers import Listing, own_cells, own_sums


class Telling(Listing):
    """Which sums are told by others, found by listing all runs."""

    def tells(self, kept, asked):
        """Whether the asked sum has one value for each list of values of the kept ones."""
        places = [self.sums.index(one) for one in kept]
        place = self.sums.index(asked)
        values = {}
        for _, row in self.runs:
            if values.setdefault(tuple(row[k] for k in places), row[place]) != row[place]:
                return False
        return True

    def told(self, kept):
        return [asked for asked in self.sums if self.tells(kept, asked)]

    def lots(self, promised, most):
        """All least lots as sorted lists of sums in the order of the sums, if they have at most so many sums."""
        loose = [asked for asked in self.sums if not self.tells([], asked)]
        for many in range(most + 1):
            found = [
                list(lot) for lot in itertools.combinations(loose, many)
                if all(self.tells(lot, asked) for asked in promised)
            ]
            if found:
                return found
        return None


def free_row(world, asked):
    """The cells of a sum that are not fixed, as a row of ones and zeros."""
    cells = [(k, tick) for k, (_, low, high) in enumerate(world.streams) if low < high for tick in range(world.ticks)]
    mine = set(own_cells(world, asked))
    return [Fraction(cell in mine) for cell in cells]


def independent(rows):
    """The number of rows that are no combination of others."""
    rows = [list(row) for row in rows]
    many = 0
    for column in range(len(rows[0]) if rows else 0):
        chosen = next((k for k in range(many, len(rows)) if rows[k][column] != 0), None)
        if chosen is None:
            continue
        rows[many], rows[chosen] = rows[chosen], rows[many]
        for k in range(many + 1, len(rows)):
            if rows[k][column] != 0:
                times = rows[k][column] / rows[many][column]
                rows[k] = [a - times * b for a, b in zip(rows[k], rows[many])]
        many += 1
    return many


def told_by_rows(world, kept, asked):
    """Whether a sum is a combination of kept ones and fixed cells."""
    rows = [free_row(world, one) for one in kept]
    return independent(rows + [free_row(world, asked)]) == independent(rows)


def drawn_sums(draw, world, many):
    return draw.choices(own_sums(world), k=many)
