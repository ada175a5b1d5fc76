"""The search for a town's ways, and the calls that tell of them."""

from townclues.model import ABOVE, BELOW, LEFT, RIGHT, as_bits, count_seen, is_cell, line_clue, line_towers
from townclues.refusals import NO_SUCH, NO_WAY, NONE_THERE, NOT_THE_SAME


def town_ways(town):
    """All ways, each as its towers cell by cell, the lower tower first."""
    # Each entry is which heights its columns have by now, as marks, and its cells.
    begun = [(0, [])]
    for i in range(town.n):
        rows = [(column_marks(row), row) for row in row_ways(town, i)]
        begun = with_another_row(begun, rows)
    return [cells for marks, cells in begun if columns_fit(town, cells)]


def with_another_row(begun, rows):
    longer = []
    for marks, cells in begun:
        for row_marks, row in rows:
            if marks & row_marks == 0:
                longer.append((marks | row_marks, cells + row))
    return longer


def column_marks(row):
    """One bit for each column and height, so that two rows have a mark in common if a column would clash."""
    marks = 0
    for x, height in enumerate(row):
        marks |= 1 << (x * len(row) + height - 1)
    return marks


def row_ways(town, i):
    return line_ways(line_towers(town, LEFT, i), line_clue(town, LEFT, i), line_clue(town, RIGHT, i))


def line_ways(towers, near, far):
    """The ways of a line by itself: near is the clue of the side that its towers are told from."""
    return [heights for heights in orders(len(towers)) if holds(heights, towers) and fits(heights, near, far)]


def orders(n):
    """All rows of the heights 1 to n, each once, the lower first."""
    rows = [[]]
    for length in range(n):
        longer = []
        for row in rows:
            longer.extend([row + [height] for height in range(1, n + 1) if height not in row])
        rows = longer
    return rows


def holds(heights, towers):
    """Whether these heights are those of the towers wherever one stands."""
    for height, tower in zip(heights, towers):
        if tower > 0 and tower != height:
            return False
    return True


def fits(heights, near, far):
    """Whether as many are seen from both ends as the clues say, where they are told."""
    if near > 0 and count_seen(heights) != near:
        return False
    return far == 0 or count_seen(list(reversed(heights))) == far


def columns_fit(town, cells):
    n = town.n
    for i in range(n):
        if not fits(cells[i::n], line_clue(town, ABOVE, i), line_clue(town, BELOW, i)):
            return False
    return True


def answer_count(town):
    return [len(town_ways(town))]


def answer_nth(town, k):
    found = town_ways(town)
    if k >= len(found):
        return [NONE_THERE]
    return [len(found[k])] + found[k]


def answer_sure(town, cell):
    if not is_cell(town, cell):
        return [NO_SUCH]
    found = town_ways(town)
    if len(found) == 0:
        return [NO_WAY]
    if not is_same(found, cell):
        return [NOT_THE_SAME]
    return [found[0][cell]]


def is_same(found, cell):
    """Whether all of these ways (one at least) have the same tower there."""
    return all([way[cell] == found[0][cell] for way in found])


def answer_could(town, cell):
    if not is_cell(town, cell):
        return [NO_SUCH]
    return [as_bits([way[cell] for way in town_ways(town)])]


def answer_known(town):
    found = town_ways(town)
    if len(found) == 0:
        return [NO_WAY]
    known = [cell for cell in range(len(town.cells)) if is_same(found, cell)]
    return [len(known)] + known
