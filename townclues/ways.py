"""The search for a town's ways, and the calls that tell of them."""

from townclues.lines import bits_at, fits, is_same, line_ways
from townclues.model import ABOVE, BELOW, LEFT, is_cell, line_clue
from townclues.refusals import NO_SUCH, NO_WAY, NONE_THERE, UNSURE


def town_ways(town):
    """All ways, each as its towers cell by cell, the lower tower first."""
    # Each entry is which heights its columns have by now, as marks, and its cells.
    begun = [(0, [])]
    for i in range(town.n):
        rows = [(column_marks(row), row) for row in line_ways(town, LEFT, i)]
        begun = with_another_row(begun, rows)
    return [cells for marks, cells in begun if columns_fit(town, cells)]


def with_another_row(begun, rows):
    longer = []
    for marks, cells in begun:
        for row_marks, row in rows:
            if marks & row_marks == 0:
                longer.append((marks | row_marks, cells + row))
    return longer


def column_marks(row):
    """One bit for each column and height, so that two rows have a mark in common if a column would clash."""
    marks = 0
    for x, height in enumerate(row):
        marks |= 1 << (x * len(row) + height - 1)
    return marks


def columns_fit(town, cells):
    n = town.n
    for i in range(n):
        if not fits(cells[i::n], line_clue(town, ABOVE, i), line_clue(town, BELOW, i)):
            return False
    return True


def answer_count(town):
    return [len(town_ways(town))]


def answer_nth(town, k):
    found = town_ways(town)
    if k >= len(found):
        return [NONE_THERE]
    return [len(found[k])] + found[k]


def answer_sure(town, cell):
    if not is_cell(town, cell):
        return [NO_SUCH]
    found = town_ways(town)
    if len(found) == 0:
        return [NO_WAY]
    if not is_same(found, cell):
        return [UNSURE]
    return [found[0][cell]]


def answer_could(town, cell):
    if not is_cell(town, cell):
        return [NO_SUCH]
    return [bits_at(town_ways(town), cell)]


def answer_known(town):
    found = town_ways(town)
    if len(found) == 0:
        return [NO_WAY]
    known = [cell for cell in range(len(town.cells)) if is_same(found, cell)]
    return [len(known)] + known
