"""The calls that build, tear down and tell."""

from townclues.model import count_towers, is_cell, is_line, line_clue
from townclues.refusals import NO_SUCH, NONE_THERE, TOWER_STANDS
from townclues.ways import town_ways


def answer_build(town, cell, height):
    if not is_cell(town, cell) or height < 1 or height > town.n:
        return [NO_SUCH]
    if town.cells[cell] > 0:
        return [TOWER_STANDS]
    town.cells[cell] = height
    return [count_towers(town)]


def answer_tear(town, cell):
    if not is_cell(town, cell):
        return [NO_SUCH]
    height = town.cells[cell]
    if height == 0:
        return [NONE_THERE]
    town.cells[cell] = 0
    return [height]


def answer_tell(town, side, i, clue):
    if not is_line(town, side, i) or clue > town.n:
        return [NO_SUCH]
    before = line_clue(town, side, i)
    town.clues[side * town.n + i] = clue
    return [before]


def answer_clear(town):
    stood = count_towers(town)
    town.cells = [0] * len(town.cells)
    return [stood]


def answer_fill(town, k):
    found = town_ways(town)
    if k >= len(found):
        return [NONE_THERE]
    built = town.cells.count(0)
    town.cells = found[k]
    return [built]
