"""Point 7: spare, views and ask."""

import itertools
import unittest

from tests.helper import (
    Unchanged, ask, begin, empty, last, latin_squares, line_of, seen_along, text_of, ways_of, written)

FULL = begin(" .... ", ".1234.", ".2143.", ".3412.", ".4321.", " .... ")
FULL_VIEWS = [4, 2, 2, 1, 1, 2, 2, 4, 1, 2, 2, 4, 4, 2, 2, 1]
LIKES = begin(" ... ", ".222.", ".131.", ".323.", " ... ")
LIKES_VIEWS = [2, 2, 2, 1, 2, 1, 1, 2, 1, 1, 2, 1]


class Spare(Unchanged):

    def spares(self, expected, start):
        self.assertEqual([len(expected)] + expected, last(start, ("spare",)), start)

    def test_none_is_told(self):
        for n in range(1, 5):
            self.spares([], empty(n))
        self.spares([], FULL)

    def test_none_can_be_spared(self):
        self.spares([], begin(" .. ", "1...", "....", " .. "))
        self.spares([], begin(" ... ", "2....", ".....", ".....", " ..2 "))
        self.spares([], begin(" .... ", "......", "......", "......", "......", " 4... "))

    def test_all_can_be_spared(self):
        self.spares([0, 1, 2, 3], begin(" 1 ", "1.1", " 1 "))
        self.spares([0, 3], begin(" 1 ", "1..", " . "))
        self.spares(list(range(16)), written(4, latin_squares(4)[100][0], latin_squares(4)[100][1]))

    def test_spared_each_but_not_both(self):
        start = begin(" .. ", "1..2", "....", " .. ")
        self.spares([2, 6], start)
        found = ask(
            start, ("count",), ("tell", 1, 0, 0), ("count",), ("spare",), ("tell", 3, 0, 0), ("count",), ("spare",),
            ("tell", 1, 0, 2), ("count",), ("spare",))
        self.assertEqual([[1], [2], [1], [0], [1], [2], [0], [0], [1], [0]], found[1:])
        start = begin(" 1.. ", "1....", ".....", ".....", " ... ")
        self.spares([0, 9], start)
        found = ask(start, ("count",), ("tell", 0, 0, 0), ("count",), ("tell", 3, 0, 0), ("count",))
        self.assertEqual([[4], [1], [4], [1], [12]], found[1:])

    def test_some_can_be_spared(self):
        # A clue of 4 tells its whole line, so the clue of 1 at its other end is spared, but not the other way.
        start = begin(" .... ", "4....1", "......", "......", "......", " .... ")
        self.spares([4], start)
        start = begin(" 4... ", "4.....", "......", "......", "1.....", " ..2. ")
        self.spares([15], start)

    def test_those_that_towers_tell_are_spared(self):
        start = begin(" .... ", "412341", "......", "......", "......", " .... ")
        self.spares([4, 12], start)
        self.spares([12], begin(" .... ", "14....", "......", "......", "......", " .... "))

    def test_each_side_times_n_and_i(self):
        for n in (2, 3, 4):
            for side, i in itertools.product(range(4), range(n)):
                found = ask(empty(n), ("tell", side, i, n), ("tell", (side + 2) % 4, i, 1), ("spare",))
                # With 2 towers each of both tells the other; with more only the clue of n tells all.
                other = (side + 2) % 4 * n + i
                expected = sorted([other, side * n + i]) if n == 2 else [other]
                self.assertEqual([len(expected)] + expected, found[3])

    def test_as_many_ways_without_each_alone(self):
        for n, step in ((2, 1), (3, 1), (4, 29)):
            for k, (square, views) in enumerate(latin_squares(n)[::step]):
                cells = [height if (cell * 7 + k) % 9 == 0 else 0 for cell, height in enumerate(square)]
                clues = [view if (place * 3 + k) % (2 + k % 4) == 0 else 0 for place, view in enumerate(views)]
                number = len(ways_of(n, cells, clues))
                expected = []
                for place, clue in enumerate(clues):
                    others = clues[:place] + [0] + clues[place + 1:]
                    if clue and len(ways_of(n, cells, others)) == number:
                        expected.append(place)
                self.spares(expected, written(n, cells, clues))

    def test_no_way(self):
        for start in (
                begin(" .. ", "1..1", "....", " .. "), begin(" 22 ", "....", "....", " .. "),
                begin(" .. ", ".11.", "....", " .. "), begin(" .. ", "112.", ".21.", " .. "),
                begin(" ... ", ".12..", "...3.", ".....", " 1.. ")):
            self.refuses(start, ("spare",), -33)


class Views(Unchanged):

    def test_from_each_side_of_each_line(self):
        self.assertEqual([16] + FULL_VIEWS, last(FULL, ("views",)))
        self.assertEqual([4, 1, 1, 1, 1], last(begin(" . ", ".1.", " . "), ("views",)))
        self.assertEqual([8, 2, 1, 1, 2, 1, 2, 2, 1], last(begin(" .. ", ".12.", ".21.", " .. "), ("views",)))
        found = last(begin(" ... ", ".132.", ".321.", ".213.", " ... "), ("views",))
        self.assertEqual([12, 2, 1, 2, 2, 3, 1, 2, 3, 1, 2, 1, 2], found)

    def test_with_like_towers_in_a_row(self):
        self.assertEqual([12] + LIKES_VIEWS, last(LIKES, ("views",)))
        self.assertEqual([8] + [1] * 8, last(begin(" .. ", ".11.", ".11.", " .. "), ("views",)))

    def test_clues_are_nothing_to_it(self):
        start = begin(" 33. ", ".132.", "1321.", ".2133", " ... ")
        self.assertEqual([12, 2, 1, 2, 2, 3, 1, 2, 3, 1, 2, 1, 2], last(start, ("views",)))

    def test_as_seen_tells(self):
        for n in (1, 2, 3):
            for square, views in latin_squares(n):
                start = written(n, square, [0] * (4 * n))
                self.assertEqual([4 * n, *views], last(start, ("views",)))
                found = ask(start, *[("seen", side, i) for side in range(4) for i in range(n)])
                self.assertEqual([[view] for view in views], found[1:])

    def test_a_cell_has_no_tower(self):
        for cell in range(9):
            for call in ("views", "ask"):
                cells = [1, 3, 2, 3, 2, 1, 2, 1, 3]
                cells[cell] = 0
                self.refuses(written(3, cells, [1] + [0] * 11), (call,), -12)
        for n in range(1, 5):
            for call in ("views", "ask"):
                self.refuses(empty(n), (call,), -12)


class Ask(Unchanged):

    def test_these_are_the_clues(self):
        found = ask(FULL, ("ask",), ("text",), ("done",), ("state",))
        self.assertEqual([16], found[1])
        expected = begin(" 4221 ", "412341", "221432", "234122", "143214", " 1224 ")
        self.assertEqual(text_of(expected), found[2])
        self.assertEqual([[1], [16, 4, 16, 1, 0]], found[3:])

    def test_how_many_they_are(self):
        for n in range(1, 5):
            start = written(n, latin_squares(n)[0][0], [0] * (4 * n))
            found = ask(start, ("ask",), *[("clue", side, i) for side in range(4) for i in range(n)])
            self.assertEqual([4 * n], found[1])
            self.assertEqual([[view] for view in latin_squares(n)[0][1]], found[2:])

    def test_with_like_towers_in_a_row(self):
        found = ask(LIKES, ("ask",), ("text",), ("clash",), ("count",))
        self.assertEqual([[12], text_of(written(3, [2, 2, 2, 1, 3, 1, 3, 2, 3], LIKES_VIEWS))], found[1:3])
        self.assertEqual([[6, 0], [0]], found[3:])

    def test_in_the_place_of_others(self):
        start = begin(" 33. ", ".132.", "1321.", ".2133", " ... ")
        found = ask(start, ("clash",), ("ask",), ("clash",), ("back",), ("clash",))
        self.assertEqual([[0, 3], [12], [0, 0], [0], [0, 3]], found[1:])

    def test_the_same_again_is_a_change(self):
        found = ask(FULL, ("ask",), ("ask",), ("state",), ("back",), ("back",), ("state",))
        self.assertEqual([[16], [16], [16, 4, 16, 2, 0], [1], [0], [16, 4, 0, 0, 2]], found[1:])

    def test_all_that_can_stand_there(self):
        for cells in itertools.product((1, 2), repeat=4):
            views = [seen_along(line_of(list(cells), 2, side, i)) for side in range(4) for i in range(2)]
            found = ask(written(2, cells, [0] * 8), ("views",), ("ask",), ("text",))
            self.assertEqual([[8] + views, [8], text_of(written(2, cells, views))], found[1:])


if __name__ == "__main__":
    unittest.main()
