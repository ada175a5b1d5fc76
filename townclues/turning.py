"""The calls that turn and mirror a town with its clues."""

from townclues.model import ABOVE, BELOW, LEFT, RIGHT, line_towers


def answer_turn(town):
    # What was a column from below up comes to be a row from the left on.
    cells = towers_from(town, BELOW)
    above = list(reversed(side_clues(town, LEFT)))
    below = list(reversed(side_clues(town, RIGHT)))
    town.clues = above + side_clues(town, ABOVE) + below + side_clues(town, BELOW)
    town.cells = cells
    return [0]


def answer_mirror(town):
    # What was a row from the right on comes to be one from the left on.
    cells = towers_from(town, RIGHT)
    above = list(reversed(side_clues(town, ABOVE)))
    below = list(reversed(side_clues(town, BELOW)))
    town.clues = above + side_clues(town, LEFT) + below + side_clues(town, RIGHT)
    town.cells = cells
    return [0]


def towers_from(town, side):
    """All towers, line by line, each line from that side on."""
    towers = []
    for i in range(town.n):
        towers.extend(line_towers(town, side, i))
    return towers


def side_clues(town, side):
    return town.clues[side * town.n:(side + 1) * town.n]
