"""How a town and its clues are written to a text."""

from townclues.model import ABOVE, BELOW, LEFT, RIGHT, line_clue, line_towers
from townclues.reading import BLANK, DIGIT_ZERO, DOT, LINE_END


def answer_text(town):
    text = edge_line(town, ABOVE)
    for i in range(town.n):
        text.extend(row_line(town, i))
    text.extend(edge_line(town, BELOW))
    return [len(text)] + text


def edge_line(town, side):
    clues = [line_clue(town, side, i) for i in range(town.n)]
    return [BLANK] + signs_of(clues) + [BLANK, LINE_END]


def row_line(town, i):
    numbers = [line_clue(town, LEFT, i)] + line_towers(town, LEFT, i) + [line_clue(town, RIGHT, i)]
    return signs_of(numbers) + [LINE_END]


def signs_of(numbers):
    return [DIGIT_ZERO + number if number > 0 else DOT for number in numbers]
