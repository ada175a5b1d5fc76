"""The calls that tell how a town stands now."""

from townclues.model import ABOVE, LEFT, SIDES
from townclues.model import as_bits, count_clues, count_seen, count_towers, is_cell, is_line, line_cells, line_clue
from townclues.model import line_towers
from townclues.refusals import NO_SUCH


def answer_at(town, cell):
    if not is_cell(town, cell):
        return [NO_SUCH]
    return [town.cells[cell], as_bits(free_heights(town, cell))]


def free_heights(town, cell):
    """The heights that no other cell of this one's row and column has."""
    n = town.n
    crossing = line_cells(n, LEFT, cell // n) + line_cells(n, ABOVE, cell % n)
    taken = [town.cells[other] for other in crossing if other != cell]
    return [height for height in range(1, n + 1) if height not in taken]


def answer_seen(town, side, i):
    if not is_line(town, side, i):
        return [NO_SUCH]
    return [count_seen(line_towers(town, side, i))]


def answer_clue(town, side, i):
    if not is_line(town, side, i):
        return [NO_SUCH]
    return [line_clue(town, side, i)]


def answer_clash(town):
    return [like_pairs(town), wrong_clues(town)]


def like_pairs(town):
    # Two cells share a row or a column, never both, so no pair is counted twice.
    pairs = 0
    for i in range(town.n):
        pairs += like_pairs_along(line_towers(town, LEFT, i))
        pairs += like_pairs_along(line_towers(town, ABOVE, i))
    return pairs


def like_pairs_along(towers):
    pairs = 0
    for k, height in enumerate(towers):
        if height > 0:
            pairs += towers[:k].count(height)
    return pairs


def wrong_clues(town):
    wrong = 0
    for side in range(SIDES):
        for i in range(town.n):
            if is_wrong(line_clue(town, side, i), line_towers(town, side, i)):
                wrong += 1
    return wrong


def is_wrong(clue, towers):
    """A clue can be wrong only if it is told and its line has a tower in each cell."""
    return clue > 0 and 0 not in towers and count_seen(towers) != clue


def answer_done(town):
    if 0 in town.cells or like_pairs(town) > 0 or wrong_clues(town) > 0:
        return [0]
    return [1]


def answer_state(town):
    return [count_towers(town), town.n, count_clues(town), len(town.earlier), len(town.later)]
