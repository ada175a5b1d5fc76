"""What the tests share: calls written plainly, answers taken apart, and a second, slow town to compare with."""

import functools
import itertools

from townclues.town import answers

BIG = 4294967295

NUMBERS = {
    "start": 0, "build": 1, "tear": 2, "tell": 3, "at": 4, "seen": 5, "clue": 6, "clash": 7,
    "done": 8, "count": 9, "nth": 10, "sure": 11, "could": 12, "known": 13}

# Every call but start, once each, with arguments that are in order for every size.
EACH_CALL = [
    ("build", 0, 1), ("tear", 0), ("tell", 0, 0, 1), ("at", 0), ("seen", 0, 0), ("clue", 0, 0), ("clash",),
    ("done",), ("count",), ("nth", 0), ("sure", 0), ("could", 0), ("known",)]


def encode(calls):
    """Calls as tuples, ("build", 0, 1) or ("start", 2, text), to the one list that answers takes."""
    numbers = []
    for call in calls:
        numbers.append(NUMBERS[call[0]])
        for part in call[1:]:
            if isinstance(part, str):
                part = part.encode("ascii")
            if isinstance(part, (bytes, list)):
                numbers.append(len(part))
                numbers.extend(part)
            else:
                numbers.append(part)
    return numbers


def decode(numbers):
    """What answers gives back, taken apart: one list for each call."""
    found = []
    place = 0
    while place < len(numbers):
        size = numbers[place]
        found.append(numbers[place + 1:place + 1 + size])
        if len(found[-1]) != size:
            raise AssertionError("the last answer is cut short")
        place += 1 + size
    return found


def ask(*calls):
    """The answers to these calls, a list each."""
    return decode(answers(encode(calls)))


def last(*calls):
    return ask(*calls)[-1]


def begin(*lines):
    """A start from a town's lines: ("start", n, text)."""
    return ("start", len(lines) - 2, "".join(line + "\n" for line in lines))


def empty(n):
    """A start without towers and clues."""
    frame = " " + "." * n + " "
    return begin(frame, *["." * (n + 2)] * n, frame)


def written(n, cells, clues):
    """A start with these towers, and these clues by side times n, and i."""
    signs = [str(number) if number else "." for number in cells]
    marks = [str(number) if number else "." for number in clues]
    lines = [" " + "".join(marks[:n]) + " "]
    for y in range(n):
        lines.append(marks[3 * n + y] + "".join(signs[y * n:y * n + n]) + marks[n + y])
    lines.append(" " + "".join(marks[2 * n:3 * n]) + " ")
    return begin(*lines)


def whole(n):
    """Calls that ask all there is to be asked about a town as it stands."""
    calls = [("clash",), ("done",), ("count",), ("known",)]
    for cell in range(n * n):
        calls += [("at", cell), ("sure", cell), ("could", cell)]
    for side in range(4):
        for i in range(n):
            calls += [("seen", side, i), ("clue", side, i)]
    return calls


def line_of(square, n, side, i):
    """The heights along a line, from its side on."""
    if side in (0, 2):
        heights = [square[y * n + i] for y in range(n)]
    else:
        heights = [square[i * n + x] for x in range(n)]
    return heights[::-1] if side in (1, 2) else heights


def seen_along(heights):
    return sum(1 for k, height in enumerate(heights) if height > max([0] + heights[:k]))


@functools.lru_cache(None)
def latin_squares(n):
    """All full towns with each height once in each row and column, in order, with what is seen in them."""
    rows = list(itertools.permutations(range(1, n + 1)))
    found = []
    for square in itertools.product(rows, repeat=n):
        if all(len(set(column)) == n for column in zip(*square)):
            cells = tuple(itertools.chain(*square))
            views = tuple(seen_along(line_of(cells, n, side, i)) for side in range(4) for i in range(n))
            found.append((cells, views))
    return sorted(found)


def ways_of(n, cells, clues):
    """The ways, by a walk through all Latin squares."""
    return [
        square for square, views in latin_squares(n)
        if all(tower in (0, height) for tower, height in zip(cells, square))
        and all(clue in (0, view) for clue, view in zip(clues, views))]


class SlowTown:
    """The same promises, kept in the slowest plain manner."""

    def __init__(self):
        self.n = None

    def answer(self, call):
        if call[0] != "start" and self.n is None:
            return [-61]
        return getattr(self, call[0])(*call[1:])

    def start(self, n, text):
        if not 1 <= n <= 4:
            return [-22]
        data = text.encode("ascii") if isinstance(text, str) else bytes(text)
        lines = data.split(b"\n")
        if lines[-1] == b"":
            lines.pop()
        signs = b".1234"[:n + 1]
        if len(lines) != n + 2 or any(len(line) != n + 2 for line in lines):
            return [-71]
        grid = {(x, y): line[x:x + 1] for y, line in enumerate(lines) for x in range(n + 2)}
        for x, y in grid:
            in_corner = x in (0, n + 1) and y in (0, n + 1)
            if grid[x, y] not in ([b" "] if in_corner else [signs[k:k + 1] for k in range(n + 1)]):
                return [-71]
        inner = range(1, n + 1)
        self.n = n
        self.cells = [signs.index(grid[x, y]) for y in inner for x in inner]
        edges = [(k, 0) for k in inner] + [(n + 1, k) for k in inner]
        edges += [(k, n + 1) for k in inner] + [(0, k) for k in inner]
        self.clues = [signs.index(grid[edge]) for edge in edges]
        return [sum(1 for tower in self.cells if tower)]

    def build(self, cell, height):
        if cell >= self.n ** 2 or height not in range(1, self.n + 1):
            return [-22]
        if self.cells[cell]:
            return [-17]
        self.cells[cell] = height
        return [sum(1 for tower in self.cells if tower)]

    def tear(self, cell):
        if cell >= self.n ** 2:
            return [-22]
        if not self.cells[cell]:
            return [-2]
        height, self.cells[cell] = self.cells[cell], 0
        return [height]

    def tell(self, side, i, clue):
        if side > 3 or i >= self.n or clue > self.n:
            return [-22]
        place = side * self.n + i
        before, self.clues[place] = self.clues[place], clue
        return [before]

    def at(self, cell):
        if cell >= self.n ** 2:
            return [-22]
        row, column = divmod(cell, self.n)
        bits = (1 << self.n) - 1
        for other, tower in enumerate(self.cells):
            if tower and other != cell and (other // self.n == row or other % self.n == column):
                bits &= ~(1 << (tower - 1))
        return [self.cells[cell], bits]

    def seen(self, side, i):
        if side > 3 or i >= self.n:
            return [-22]
        return [seen_along(line_of(self.cells, self.n, side, i))]

    def clue(self, side, i):
        if side > 3 or i >= self.n:
            return [-22]
        return [self.clues[side * self.n + i]]

    def clash(self):
        n = self.n
        pairs = 0
        for one, two in itertools.combinations(range(n * n), 2):
            if one // n == two // n or one % n == two % n:
                pairs += self.cells[one] == self.cells[two] != 0
        wrong = 0
        for side, i in itertools.product(range(4), range(n)):
            heights = line_of(self.cells, n, side, i)
            clue = self.clues[side * n + i]
            wrong += bool(clue and all(heights) and seen_along(heights) != clue)
        return [int(pairs), wrong]

    def done(self):
        return [int(all(self.cells) and self.clash() == [0, 0])]

    def ways(self):
        return ways_of(self.n, self.cells, self.clues)

    def count(self):
        return [len(self.ways())]

    def nth(self, k):
        ways = self.ways()
        return [-2] if k >= len(ways) else [self.n ** 2, *ways[k]]

    def sure(self, cell):
        if cell >= self.n ** 2:
            return [-22]
        heights = {way[cell] for way in self.ways()}
        if not heights:
            return [-33]
        return [-6] if len(heights) > 1 else list(heights)

    def could(self, cell):
        if cell >= self.n ** 2:
            return [-22]
        return [sum(1 << (height - 1) for height in {way[cell] for way in self.ways()})]

    def known(self):
        ways = self.ways()
        if not ways:
            return [-33]
        cells = [cell for cell in range(self.n ** 2) if len({way[cell] for way in ways}) == 1]
        return [len(cells), *cells]


def slow_answers(calls):
    town = SlowTown()
    return [town.answer(call) for call in calls]
