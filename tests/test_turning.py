"""Point 8: turn, mirror and text."""

import itertools
import unittest

from tests.helper import ask, begin, empty, last, latin_squares, line_of, text_of, ways_of, whole, written

# By a town's lines, what comes of them turned by a quarter to the right, and mirrored.
TURNED = (
    ((" 1 ", "..1", " . "), (" . ", "..1", " 1 ")),
    ((" 1 ", "11.", " . "), (" 1 ", ".11", " . ")),
    ((" 12 ", "11.2", "...1", " .. "), (" .1 ", "..11", "...2", " 12 ")),
    ((" 123 ", "112.3", "2.1.2", "3..31", " .31 "), (" 321 ", "...11", "3.122", "13..3", " 123 ")),
    (
        (" 1234 ", "11...4", "2.2..3", "3..3.2", "44...1", " .431 "),
        (" 4321 ", ".4..11", "4..2.2", "3.3..3", "1....4", " 1234 ")))
MIRRORED = (
    ((" 1 ", "..1", " . "), (" 1 ", "1..", " . ")),
    ((" 1 ", "11.", " . "), (" 1 ", ".11", " . ")),
    ((" 12 ", "11.2", "...1", " .. "), (" 21 ", "2.11", "1...", " .. ")),
    ((" 123 ", "112.3", "2.1.2", "3..31", " .31 "), (" 321 ", "3.211", "2.1.2", "13..3", " 13. ")),
    (
        (" 1234 ", "11...4", "2.2..3", "3..3.2", "44...1", " .431 "),
        (" 4321 ", "4...11", "3..2.2", "2.3..3", "1...44", " 134. ")))


def places(n):
    """Every cell and every clue of a town, each by itself: towers and clues with one that isn't 0."""
    for place in range(n * n + 4 * n):
        numbers = [1 if other == place else 0 for other in range(n * n + 4 * n)]
        yield numbers[:n * n], numbers[n * n:]


def moved(n, cells, to):
    """The towers with each cell (x, y) come to where it's told."""
    found = [0] * (n * n)
    for y, x in itertools.product(range(n), repeat=2):
        new_x, new_y = to(x, y)
        found[new_y * n + new_x] = cells[y * n + x]
    return found


def clues_with_lines(n, clues, call, to):
    """The clues, each come to where its line's cells are now, in their order from its side on."""
    if n == 1:
        # The one cell is every line from every side, so here it's told by the sides alone.
        return [clues[side] for side in ((3, 0, 1, 2) if call == "turn" else (0, 3, 2, 1))]
    numbered = list(range(n * n))
    after = moved(n, numbered, to)
    lines = [(side, i) for side in range(4) for i in range(n)]
    old = [line_of(numbered, n, *line) for line in lines]
    return [clues[old.index(line_of(after, n, *line))] for line in lines]


class Turning(unittest.TestCase):
    """What is said of turn and mirror alike."""

    def to_of(self, call, n):
        if call == "turn":
            return lambda x, y: (n - 1 - y, x)
        return lambda x, y: (n - 1 - x, y)

    def moves(self, n, cells, clues, call):
        """The whole town, cell by cell as the words say it, and its clues with their lines."""
        to = self.to_of(call, n)
        expected = written(n, moved(n, cells, to), clues_with_lines(n, clues, call, to))
        start = written(n, cells, clues)
        found = ask(start, (call,), ("text",))
        self.assertEqual([0], found[1])
        self.assertEqual(text_of(expected), found[2], (call, start))

    def test_as_drawn(self):
        for call, drawn in (("turn", TURNED), ("mirror", MIRRORED)):
            for before, after in drawn:
                found = ask(begin(*before), (call,), ("text",))
                self.assertEqual([[0], text_of(begin(*after))], found[1:], (call, before))

    def test_each_cell_and_clue_by_itself(self):
        for n in range(1, 5):
            for call in ("turn", "mirror"):
                for cells, clues in places(n):
                    self.moves(n, cells, clues, call)

    def test_many_towns(self):
        for n in range(1, 5):
            for k, (square, views) in enumerate(latin_squares(n)[::1 + n * n]):
                cells = [height if (cell * 7 + k) % 3 else 0 for cell, height in enumerate(square)]
                clues = [view if (place * 3 + k) % 4 else 0 for place, view in enumerate(views)]
                for call in ("turn", "mirror"):
                    self.moves(n, cells, clues, call)
                    self.moves(n, list(square), list(views), call)

    def test_whatever_stands_there(self):
        self.moves(2, [1, 1, 0, 2], [2, 2, 0, 1, 1, 0, 0, 2], "turn")
        self.moves(3, [3, 3, 3, 1, 0, 1, 0, 0, 2], [3, 1, 0] * 4, "mirror")

    def test_turned_four_times_mirrored_twice(self):
        for before, after in TURNED:
            start = begin(*before)
            n = start[1]
            # All but state, which tells of the changes.
            asked = [call for call in whole(n) if call != ("state",)]
            alone = ask(start, *asked)[1:]
            self.assertEqual(alone, ask(start, *[("turn",)] * 4, *asked)[5:])
            self.assertEqual(alone, ask(start, *[("mirror",)] * 2, *asked)[3:])
            self.assertEqual(alone, ask(start, *[("turn",), ("mirror",)] * 2, *asked)[5:])

    def test_turned_twice_is_upside_down(self):
        start = begin(" 123 ", "112.3", "2.1.2", "3..31", " .31 ")
        expected = begin(" 13. ", "13..3", "2.1.2", "3.211", " 321 ")
        self.assertEqual(text_of(expected), last(start, ("turn",), ("turn",), ("text",)))

    def test_turn_and_mirror_are_not_alike(self):
        start = begin(" 123 ", "112.3", "2.1.2", "3..31", " .31 ")
        one = last(start, ("turn",), ("mirror",), ("text",))
        other = last(start, ("mirror",), ("turn",), ("text",))
        self.assertNotEqual(one, other)
        self.assertEqual(other, last(start, *[("turn",)] * 3, ("mirror",), ("text",)))

    def test_the_ways_are_the_ways_turned_or_mirrored(self):
        for n, step in ((1, 1), (2, 1), (3, 1), (4, 31)):
            for k, (square, views) in enumerate(latin_squares(n)[::step]):
                cells = [height if (cell * 7 + k) % 6 == 0 else 0 for cell, height in enumerate(square)]
                clues = [view if (place * 3 + k) % 4 == 0 else 0 for place, view in enumerate(views)]
                ways = ways_of(n, cells, clues)
                for call in ("turn", "mirror"):
                    self.has_ways(written(n, cells, clues), call, ways)

    def has_ways(self, start, call, ways):
        n = start[1]
        number = min(len(ways), 150)
        expected = sorted(moved(n, way, self.to_of(call, n)) for way in ways)
        found = ask(start, (call,), ("count",), *[("nth", k) for k in range(number)])
        self.assertEqual([len(ways)], found[2])
        self.assertEqual([[n * n] + way for way in expected[:number]], found[3:])

    def test_all_is_alike(self):
        for call in ("turn", "mirror"):
            for before, after in TURNED:
                start = begin(*before)
                n = start[1]
                asked = [("clash",), ("done",), ("count",)]
                found = ask(start, *asked, (call,), *asked)
                self.assertEqual(found[1:4], found[5:])
                self.assertEqual(last(start, ("state",))[:3], last(start, (call,), ("state",))[:3])
                cells = moved(n, list(range(n * n)), self.to_of(call, n))
                for new, old in enumerate(cells):
                    for name in ("at", "sure", "could"):
                        self.assertEqual(last(start, (name, old)), last(start, (call,), (name, new)))


class Text(unittest.TestCase):

    def test_as_it_is_drawn(self):
        for before, after in TURNED + MIRRORED:
            for lines in (before, after):
                text = "".join(line + "\n" for line in lines)
                expected = [len(text)] + [ord(sign) for sign in text]
                self.assertEqual(expected, last(begin(*lines), ("text",)))

    def test_byte_by_byte(self):
        self.assertEqual([12, 32, 46, 32, 10, 46, 46, 46, 10, 32, 46, 32, 10], last(empty(1), ("text",)))
        start = begin(" 12 ", "1.22", "21.1", " .2 ")
        expected = [
            20, 32, 49, 50, 32, 10, 49, 46, 50, 50, 10, 50, 49, 46, 49, 10, 32, 46, 50, 32, 10]
        self.assertEqual(expected, last(start, ("text",)))

    def test_how_many_bytes(self):
        for n, size in ((1, 12), (2, 20), (3, 30), (4, 42)):
            self.assertEqual(size, last(empty(n), ("text",))[0])
            self.assertEqual(size + 1, len(last(empty(n), ("text",))))

    def test_each_tower_and_clue_by_itself(self):
        for n in range(1, 5):
            for number in range(1, n + 1):
                for cell in range(n * n):
                    cells = [number if other == cell else 0 for other in range(n * n)]
                    expected = text_of(written(n, cells, [0] * (4 * n)))
                    self.assertEqual(expected, last(empty(n), ("build", cell, number), ("text",)))
                for side, i in itertools.product(range(4), range(n)):
                    clues = [number if other == side * n + i else 0 for other in range(4 * n)]
                    expected = text_of(written(n, [0] * (n * n), clues))
                    self.assertEqual(expected, last(empty(n), ("tell", side, i, number), ("text",)))

    def test_a_byte_10_behind_the_last_line_too(self):
        start = begin(" 12 ", "1.22", "21.1", " .2 ")
        without = ("start", 2, start[2][:-1])
        self.assertEqual(text_of(start), last(without, ("text",)))

    def test_what_start_reads_of_it_is_the_same(self):
        for n in range(1, 5):
            for k, (square, views) in enumerate(latin_squares(n)[::1 + n * n * 2]):
                cells = [height if (cell * 7 + k) % 3 else 0 for cell, height in enumerate(square)]
                clues = [view if (place * 3 + k) % 4 else 0 for place, view in enumerate(views)]
                start = written(n, cells, clues)
                text = last(start, ("text",))
                again = ("start", n, text[1:])
                self.assertEqual(ask(start, *whole(n)), ask(again, *whole(n)))
                found = ask(again, *[("clue", side, i) for side in range(4) for i in range(n)])
                self.assertEqual([[clue] for clue in clues], found[1:])
                found = ask(again, *[("at", cell) for cell in range(n * n)])
                self.assertEqual(cells, [answer[0] for answer in found[1:]])


if __name__ == "__main__":
    unittest.main()
