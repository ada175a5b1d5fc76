"""How a town and its clues are read from a text."""

from townclues.model import HIGHEST_SIZE, count_towers
from townclues.refusals import NO_SUCH, NO_TOWN

LINE_END = 10
BLANK = 32
DOT = 46
DIGIT_ZERO = 48

NO_SIGN = -1


def answer_start(town, n, text):
    if n < 1 or n > HIGHEST_SIZE:
        return [NO_SUCH]
    lines = text_lines(text)
    if not has_form(n, lines):
        return [NO_TOWN]
    cells = read_cells(n, lines)
    clues = read_clues(n, lines)
    if NO_SIGN in cells or NO_SIGN in clues:
        return [NO_TOWN]
    town.n = n
    town.cells = cells
    town.clues = clues
    town.earlier = []
    town.later = []
    return [count_towers(town)]


def text_lines(text):
    lines = []
    line = []
    for byte in text:
        if byte == LINE_END:
            lines.append(line)
            line = []
        else:
            line.append(byte)
    # The last line may do without its byte 10, but then it is one only if it isn't empty.
    if len(line) > 0:
        lines.append(line)
    return lines


def has_form(n, lines):
    """n + 2 lines of n + 2 bytes with a blank in each corner."""
    if [len(line) for line in lines] != [n + 2] * (n + 2):
        return False
    corners = [lines[0][0], lines[0][n + 1], lines[n + 1][0], lines[n + 1][n + 1]]
    return corners == [BLANK] * 4


def read_cells(n, lines):
    cells = []
    for line in lines[1:n + 1]:
        cells.extend(read_signs(n, line[1:n + 1]))
    return cells


def read_clues(n, lines):
    above = lines[0][1:n + 1]
    right = [line[n + 1] for line in lines[1:n + 1]]
    below = lines[n + 1][1:n + 1]
    left = [line[0] for line in lines[1:n + 1]]
    return read_signs(n, above + right + below + left)


def read_signs(n, signs):
    return [read_sign(n, sign) for sign in signs]


def read_sign(n, sign):
    """What a sign stands for, or NO_SIGN: the digit 0 is none, nor is one above n."""
    if sign == DOT:
        return 0
    if sign > DIGIT_ZERO and sign <= DIGIT_ZERO + n:
        return sign - DIGIT_ZERO
    return NO_SIGN
