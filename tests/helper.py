"""What the tests share: calls written plainly, answers taken apart, and a second, slow town to compare with."""

import functools
import itertools
import unittest

from townclues.town import answers

BIG = 4294967295

NUMBERS = {
    "start": 0, "build": 1, "tear": 2, "tell": 3, "at": 4, "seen": 5, "clue": 6, "clash": 7,
    "done": 8, "count": 9, "nth": 10, "sure": 11, "could": 12, "known": 13, "line": 14, "hint": 15,
    "solve": 16, "fill": 17, "spare": 18, "views": 19, "clear": 20, "ask": 21, "turn": 22, "mirror": 23,
    "text": 24, "back": 25, "again": 26, "state": 27}

CHANGES = ("build", "tear", "tell", "solve", "fill", "clear", "ask", "turn", "mirror")

# Every call but start, once each, with arguments that are in order for every size.
EACH_CALL = [
    ("build", 0, 1), ("tear", 0), ("tell", 0, 0, 1), ("at", 0), ("seen", 0, 0), ("clue", 0, 0), ("clash",),
    ("done",), ("count",), ("nth", 0), ("sure", 0), ("could", 0), ("known",), ("line", 0, 0), ("hint",), ("solve",),
    ("fill", 0), ("spare",), ("views",), ("clear",), ("ask",), ("turn",), ("mirror",), ("text",), ("back",),
    ("again",), ("state",)]

# Those of them that only look.
EACH_LOOK = [call for call in EACH_CALL if call[0] not in CHANGES + ("back", "again")]


def encode(calls):
    """Calls as tuples, ("build", 0, 1) or ("start", 2, text), to the one list that answers takes."""
    numbers = []
    for call in calls:
        numbers.append(NUMBERS[call[0]])
        for part in call[1:]:
            if isinstance(part, str):
                part = part.encode("ascii")
            if isinstance(part, (bytes, list)):
                numbers.append(len(part))
                numbers.extend(part)
            else:
                numbers.append(part)
    return numbers


def decode(numbers):
    """What answers gives back, taken apart: one list for each call."""
    found = []
    place = 0
    while place < len(numbers):
        size = numbers[place]
        found.append(numbers[place + 1:place + 1 + size])
        if len(found[-1]) != size:
            raise AssertionError("the last answer is cut short")
        place += 1 + size
    return found


def ask(*calls):
    """The answers to these calls, a list each."""
    if not 1 <= len(calls) <= 200:
        raise AssertionError("no such list is handed in")
    return decode(answers(encode(calls)))


def last(*calls):
    return ask(*calls)[-1]


def begin(*lines):
    """A start from a town's lines: ("start", n, text)."""
    return ("start", len(lines) - 2, "".join(line + "\n" for line in lines))


def empty(n):
    """A start without towers and clues."""
    frame = " " + "." * n + " "
    return begin(frame, *["." * (n + 2)] * n, frame)


def written(n, cells, clues):
    """A start with these towers, and these clues by side times n, and i."""
    signs = [str(number) if number else "." for number in cells]
    marks = [str(number) if number else "." for number in clues]
    lines = [" " + "".join(marks[:n]) + " "]
    for y in range(n):
        lines.append(marks[3 * n + y] + "".join(signs[y * n:y * n + n]) + marks[n + y])
    lines.append(" " + "".join(marks[2 * n:3 * n]) + " ")
    return begin(*lines)


def whole(n):
    """Calls that ask all there is to be asked about a town as it stands."""
    calls = [
        ("clash",), ("done",), ("count",), ("known",), ("hint",), ("spare",), ("views",), ("text",), ("state",)]
    for cell in range(n * n):
        calls += [("at", cell), ("sure", cell), ("could", cell)]
    for side in range(4):
        for i in range(n):
            calls += [("seen", side, i), ("line", side, i)]
    return calls


def text_of(start):
    """What text answers of a town that has just been started from this text, as it's written."""
    data = list(start[2].encode("ascii"))
    return [len(data)] + data


class Unchanged(unittest.TestCase):

    def refuses(self, start, call, number):
        """The call is refused, and all is as if it had not been called: the town, and its changes."""
        n = start[1]
        # Changes that can be taken back and done again, but leave the town as it was.
        ahead = [start, ("mirror",), ("mirror",), ("mirror",), ("back",)]
        behind = whole(n) + [("back",), ("text",), ("again",), ("text",), ("again",), ("text",), ("state",)]
        found = ask(*ahead, call, *behind)
        self.assertEqual([number], found[5], call)
        self.assertEqual(ask(*ahead, *behind), found[:5] + found[6:], call)


def line_of(square, n, side, i):
    """The heights along a line, from its side on."""
    if side in (0, 2):
        heights = [square[y * n + i] for y in range(n)]
    else:
        heights = [square[i * n + x] for x in range(n)]
    return heights[::-1] if side in (1, 2) else heights


def seen_along(heights):
    return sum(1 for k, height in enumerate(heights) if height > max([0] + heights[:k]))


@functools.lru_cache(None)
def latin_squares(n):
    """All full towns with each height once in each row and column, in order, with what is seen in them."""
    rows = list(itertools.permutations(range(1, n + 1)))
    found = []
    for square in itertools.product(rows, repeat=n):
        if all(len(set(column)) == n for column in zip(*square)):
            cells = tuple(itertools.chain(*square))
            views = tuple(seen_along(line_of(cells, n, side, i)) for side in range(4) for i in range(n))
            found.append((cells, views))
    return sorted(found)


def ways_of(n, cells, clues):
    """The ways, by a walk through all Latin squares."""
    return [
        square for square, views in latin_squares(n)
        if all(tower in (0, height) for tower, height in zip(cells, square))
        and all(clue in (0, view) for clue, view in zip(clues, views))]


class SlowTown:
    """The same promises, kept in the slowest plain manner."""

    def __init__(self):
        self.n = None

    def answer(self, call):
        if call[0] != "start" and self.n is None:
            return [-61]
        answer = getattr(self, call[0])(*call[1:])
        if call[0] in CHANGES and answer[0] >= 0:
            # Twenty can be taken back, so the moments behind twenty-one ones are of no use any more.
            self.moments = (self.moments[:self.here + 1] + [self.moment()])[-21:]
            self.here = len(self.moments) - 1
        return answer

    def moment(self):
        return tuple(self.cells), tuple(self.clues)

    def start(self, n, text):
        if not 1 <= n <= 4:
            return [-22]
        data = text.encode("ascii") if isinstance(text, str) else bytes(text)
        lines = data.split(b"\n")
        if lines[-1] == b"":
            lines.pop()
        signs = b".1234"[:n + 1]
        if len(lines) != n + 2 or any(len(line) != n + 2 for line in lines):
            return [-71]
        grid = {(x, y): line[x:x + 1] for y, line in enumerate(lines) for x in range(n + 2)}
        for x, y in grid:
            in_corner = x in (0, n + 1) and y in (0, n + 1)
            if grid[x, y] not in ([b" "] if in_corner else [signs[k:k + 1] for k in range(n + 1)]):
                return [-71]
        inner = range(1, n + 1)
        self.n = n
        self.cells = [signs.index(grid[x, y]) for y in inner for x in inner]
        edges = [(k, 0) for k in inner] + [(n + 1, k) for k in inner]
        edges += [(k, n + 1) for k in inner] + [(0, k) for k in inner]
        self.clues = [signs.index(grid[edge]) for edge in edges]
        self.moments = [self.moment()]
        self.here = 0
        return [sum(1 for tower in self.cells if tower)]

    def build(self, cell, height):
        if cell >= self.n ** 2 or height not in range(1, self.n + 1):
            return [-22]
        if self.cells[cell]:
            return [-17]
        self.cells[cell] = height
        return [sum(1 for tower in self.cells if tower)]

    def tear(self, cell):
        if cell >= self.n ** 2:
            return [-22]
        if not self.cells[cell]:
            return [-2]
        height, self.cells[cell] = self.cells[cell], 0
        return [height]

    def tell(self, side, i, clue):
        if side > 3 or i >= self.n or clue > self.n:
            return [-22]
        place = side * self.n + i
        before, self.clues[place] = self.clues[place], clue
        return [before]

    def at(self, cell):
        if cell >= self.n ** 2:
            return [-22]
        row, column = divmod(cell, self.n)
        bits = (1 << self.n) - 1
        for other, tower in enumerate(self.cells):
            if tower and other != cell and (other // self.n == row or other % self.n == column):
                bits &= ~(1 << (tower - 1))
        return [self.cells[cell], bits]

    def seen(self, side, i):
        if side > 3 or i >= self.n:
            return [-22]
        return [seen_along(line_of(self.cells, self.n, side, i))]

    def clue(self, side, i):
        if side > 3 or i >= self.n:
            return [-22]
        return [self.clues[side * self.n + i]]

    def clash(self):
        n = self.n
        pairs = 0
        for one, two in itertools.combinations(range(n * n), 2):
            if one // n == two // n or one % n == two % n:
                pairs += self.cells[one] == self.cells[two] != 0
        wrong = 0
        for side, i in itertools.product(range(4), range(n)):
            heights = line_of(self.cells, n, side, i)
            clue = self.clues[side * n + i]
            wrong += bool(clue and all(heights) and seen_along(heights) != clue)
        return [int(pairs), wrong]

    def done(self):
        return [int(all(self.cells) and self.clash() == [0, 0])]

    def ways(self):
        return ways_of(self.n, self.cells, self.clues)

    def count(self):
        return [len(self.ways())]

    def nth(self, k):
        ways = self.ways()
        return [-2] if k >= len(ways) else [self.n ** 2, *ways[k]]

    def sure(self, cell):
        if cell >= self.n ** 2:
            return [-22]
        heights = {way[cell] for way in self.ways()}
        if not heights:
            return [-33]
        return [-6] if len(heights) > 1 else list(heights)

    def could(self, cell):
        if cell >= self.n ** 2:
            return [-22]
        return [sum(1 << (height - 1) for height in {way[cell] for way in self.ways()})]

    def known(self):
        ways = self.ways()
        if not ways:
            return [-33]
        cells = [cell for cell in range(self.n ** 2) if len({way[cell] for way in ways}) == 1]
        return [len(cells), *cells]

    def rows(self, side, i):
        """The ways of a line by itself, from its side on."""
        towers = line_of(self.cells, self.n, side, i)
        near, far = self.clues[side * self.n + i], self.clues[(side ^ 2) * self.n + i]
        return [
            row for row in itertools.permutations(range(1, self.n + 1))
            if all(tower in (0, height) for tower, height in zip(towers, row))
            and near in (0, seen_along(list(row))) and far in (0, seen_along(list(row[::-1])))]

    def line(self, side, i):
        if side > 3 or i >= self.n:
            return [-22]
        rows = self.rows(side, i)
        if not rows:
            return [-33]
        return [len(rows)] + [sum(1 << (height - 1) for height in set(heights)) for heights in zip(*rows)]

    def hint(self):
        n = self.n
        lines = [(side, i) for side in (3, 0) for i in range(n)]
        if not all(self.rows(*line) for line in lines):
            return [-33]
        for line in lines:
            cells = line_of(range(n * n), n, *line)
            for cell, heights in zip(cells, zip(*self.rows(*line))):
                if not self.cells[cell] and len(set(heights)) == 1:
                    return [cell, heights[0]]
        return [-6]

    def solve(self):
        if self.hint()[0] < 0:
            return self.hint()
        built = 0
        while len(self.hint()) == 2:
            cell, height = self.hint()
            self.cells[cell] = height
            built += 1
        return [built]

    def fill(self, k):
        ways = self.ways()
        if k >= len(ways):
            return [-2]
        stood = sum(1 for tower in self.cells if tower)
        self.cells = list(ways[k])
        return [self.n ** 2 - stood]

    def spare(self):
        number = len(self.ways())
        if not number:
            return [-33]
        spared = []
        for place, clue in enumerate(self.clues):
            others = self.clues[:place] + [0] + self.clues[place + 1:]
            if clue and len(ways_of(self.n, self.cells, others)) == number:
                spared.append(place)
        return [len(spared), *spared]

    def views(self):
        if not all(self.cells):
            return [-12]
        return [4 * self.n] + [self.seen(side, i)[0] for side in range(4) for i in range(self.n)]

    def clear(self):
        stood = sum(1 for tower in self.cells if tower)
        self.cells = [0] * self.n ** 2
        return [stood]

    def ask(self):
        views = self.views()
        if views[0] > 0:
            self.clues = views[1:]
        return views[:1]

    def redraw(self, lines):
        """The town and its clues are what these lines show."""
        moments, here = self.moments, self.here
        self.start(*begin(*lines)[1:])
        self.moments, self.here = moments, here
        return [0]

    def lines(self):
        return written(self.n, self.cells, self.clues)[2].splitlines()

    def turn(self):
        return self.redraw(["".join(column) for column in zip(*self.lines()[::-1])])

    def mirror(self):
        return self.redraw([line[::-1] for line in self.lines()])

    def text(self):
        return text_of(written(self.n, self.cells, self.clues))

    def go(self, steps):
        if not 0 <= self.here + steps < len(self.moments):
            return False
        self.here += steps
        self.cells, self.clues = map(list, self.moments[self.here])
        return True

    def back(self):
        return [self.here] if self.go(-1) else [-2]

    def again(self):
        return [len(self.moments) - 1 - self.here] if self.go(1) else [-2]

    def state(self):
        told = [sum(1 for number in numbers if number) for numbers in (self.cells, self.clues)]
        return [told[0], self.n, told[1], self.here, len(self.moments) - 1 - self.here]


def slow_answers(calls):
    town = SlowTown()
    return [town.answer(call) for call in calls]
