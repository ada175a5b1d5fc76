"""What a town is, where its lines lie, and what is seen along them."""

HIGHEST_SIZE = 4

ABOVE = 0
RIGHT = 1
BELOW = 2
LEFT = 3
SIDES = 4


class Town:
    """The towers by cell and the clues by side times n, and i; 0 stands for none. An n of 0 is not begun.

    Earlier and later hold towers and clues as they were: what back and what again come to, each from its end on.
    """

    def __init__(self):
        self.n = 0
        self.cells = []
        self.clues = []
        self.earlier = []
        self.later = []


def is_cell(town, cell):
    return cell < town.n * town.n


def is_line(town, side, i):
    return side < SIDES and i < town.n


def line_cells(n, side, i):
    """The cells of a line, from its side on."""
    if side == ABOVE or side == BELOW:
        cells = [y * n + i for y in range(n)]
    else:
        cells = [i * n + x for x in range(n)]
    if side == RIGHT or side == BELOW:
        return list(reversed(cells))
    return cells


def line_towers(town, side, i):
    """The towers of a line, from its side on, 0 where none stands."""
    return [town.cells[cell] for cell in line_cells(town.n, side, i)]


def line_clue(town, side, i):
    return town.clues[side * town.n + i]


def count_towers(town):
    return len([height for height in town.cells if height > 0])


def count_clues(town):
    return len([clue for clue in town.clues if clue > 0])


def count_seen(towers):
    """How many of a line's towers are higher than all before them."""
    highest = 0
    number = 0
    for height in towers:
        # A cell without a tower holds 0, so it is never seen and hides nothing.
        if height > highest:
            highest = height
            number += 1
    return number


def as_bits(heights):
    """Height h is bit h - 1."""
    bits = 0
    for height in heights:
        bits |= 1 << (height - 1)
    return bits
