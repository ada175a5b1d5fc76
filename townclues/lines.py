"""A line by itself, what it tells, and the calls that go by lines alone."""

from townclues.model import ABOVE, LEFT, SIDES
from townclues.model import as_bits, count_seen, is_line, line_cells, line_clue, line_towers
from townclues.refusals import NO_SUCH, NO_WAY, UNSURE


def line_ways(town, side, i):
    """The ways of a line by itself, each as its heights from that side on, the lower first."""
    towers = line_towers(town, side, i)
    near = line_clue(town, side, i)
    far = line_clue(town, (side + 2) % SIDES, i)
    return [heights for heights in orders(town.n) if holds(heights, towers) and fits(heights, near, far)]


def orders(n):
    """All rows of the heights 1 to n, each once, the lower first."""
    rows = [[]]
    for length in range(n):
        longer = []
        for row in rows:
            longer.extend([row + [height] for height in range(1, n + 1) if height not in row])
        rows = longer
    return rows


def holds(heights, towers):
    """Whether these heights are those of the towers wherever one stands."""
    for height, tower in zip(heights, towers):
        if tower > 0 and tower != height:
            return False
    return True


def fits(heights, near, far):
    """Whether as many are seen from both ends as the clues say, where they are told."""
    if near > 0 and count_seen(heights) != near:
        return False
    return far == 0 or count_seen(list(reversed(heights))) == far


def is_same(found, place):
    """Whether all of these ways (one at least) have the same tower there."""
    return all([way[place] == found[0][place] for way in found])


def bits_at(found, place):
    """The heights that these ways have there, as bits."""
    return as_bits([way[place] for way in found])


def answer_line(town, side, i):
    if not is_line(town, side, i):
        return [NO_SUCH]
    found = line_ways(town, side, i)
    if len(found) == 0:
        return [NO_WAY]
    return [len(found)] + [bits_at(found, place) for place in range(town.n)]


def answer_hint(town):
    told = []
    for side, i in rows_then_columns(town.n):
        found = line_ways(town, side, i)
        # A line without a way is told of even where one before it tells a cell, so all are gone through.
        if len(found) == 0:
            return [NO_WAY]
        if len(told) == 0:
            told = first_told(town, line_cells(town.n, side, i), found)
    if len(told) == 0:
        return [UNSURE]
    return told


def rows_then_columns(n):
    return [(LEFT, i) for i in range(n)] + [(ABOVE, i) for i in range(n)]


def first_told(town, cells, found):
    """The first of a line's cells that its ways tell, and the height there; nothing if there is none."""
    for place, cell in enumerate(cells):
        if town.cells[cell] == 0 and is_same(found, place):
            return [cell, found[0][place]]
    return []


def answer_solve(town):
    hint = answer_hint(town)
    if hint[0] < 0:
        return hint
    built = 0
    while hint[0] >= 0:
        town.cells[hint[0]] = hint[1]
        built += 1
        hint = answer_hint(town)
    return [built]
