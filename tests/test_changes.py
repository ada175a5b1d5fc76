"""Point 2: build, tear, tell and clear; and fill of point 6."""

import unittest

from tests.helper import BIG, Unchanged, ask, begin, empty, last, latin_squares, text_of, ways_of, written

THREE = begin(" 1.. ", ".3..2", "..1..", "2...3", " .2. ")


class Build(Unchanged):

    def test_the_tower_stands(self):
        found = ask(empty(3), ("build", 4, 2), ("at", 4), ("build", 0, 3), ("at", 0), ("build", 8, 1), ("at", 8))
        self.assertEqual([[0], [1], [2, 7], [2], [3, 7], [3], [1, 7]], found)

    def test_each_cell_and_height_of_each_size(self):
        for n in range(1, 5):
            for cell in range(n * n):
                for height in range(1, n + 1):
                    found = ask(empty(n), ("build", cell, height), *[("at", other) for other in range(n * n)])
                    self.assertEqual([1], found[1])
                    towers = [height if other == cell else 0 for other in range(n * n)]
                    self.assertEqual(towers, [answer[0] for answer in found[2:]])

    def test_answers_how_many_stand_with_it(self):
        for n in range(1, 5):
            found = ask(empty(n), *[("build", cell, n) for cell in range(n * n)])
            self.assertEqual([[k] for k in range(n * n + 1)], found)

    def test_against_likes_and_clues(self):
        start = begin(" .. ", "1...", "....", " .. ")
        self.assertEqual([[0], [1], [2], [1, 0]], ask(start, ("build", 0, 1), ("build", 1, 1), ("clash",)))

    def test_no_such_cell(self):
        for n in range(1, 5):
            for cell in (n * n, n * n + 1, 255, 256, BIG):
                self.refuses(empty(n), ("build", cell, 1), -22)

    def test_no_such_height(self):
        for n in range(1, 5):
            for height in (0, n + 1, 255, BIG):
                self.refuses(empty(n), ("build", 0, height), -22)

    def test_a_tower_stands_there(self):
        for height in (1, 2, 3):
            self.refuses(THREE, ("build", 0, height), -17)
        self.refuses(begin(" . ", ".1.", " . "), ("build", 0, 1), -17)

    def test_22_before_17(self):
        for height in (0, 4, BIG):
            self.refuses(THREE, ("build", 0, height), -22)
        self.refuses(THREE, ("build", 9, 0), -22)

    def test_a_built_one_stands_too(self):
        self.assertEqual([[0], [1], [-17], [2, 3]], ask(empty(2), ("build", 1, 2), ("build", 1, 1), ("at", 1)))


class Tear(Unchanged):

    def test_the_tower_is_gone(self):
        found = ask(THREE, ("tear", 0), ("at", 0), ("tear", 4), ("at", 4), ("build", 1, 2))
        self.assertEqual([[2], [3], [0, 7], [1], [0, 7], [1]], found)

    def test_each_height(self):
        for n in range(1, 5):
            for height in range(1, n + 1):
                found = ask(empty(n), ("build", n * n - 1, height), ("tear", n * n - 1), ("tear", n * n - 1))
                self.assertEqual([[0], [1], [height], [-2]], found)

    def test_the_others_stand_as_they_did(self):
        full = begin(" .. ", ".12.", ".21.", " .. ")
        found = ask(full, ("tear", 2), *[("at", cell) for cell in range(4)])
        self.assertEqual([[4], [2], [1, 1], [2, 2], [0, 2], [1, 1]], found)

    def test_none_stands_there(self):
        for cell in (1, 2, 8):
            self.refuses(THREE, ("tear", cell), -2)

    def test_no_such_cell(self):
        for n in range(1, 5):
            for cell in (n * n, n * n + 1, 256, BIG):
                self.refuses(empty(n), ("tear", cell), -22)


class Tell(Unchanged):

    def test_answers_what_it_was(self):
        found = ask(THREE, ("tell", 0, 0, 3), ("clue", 0, 0), ("tell", 0, 0, 0), ("clue", 0, 0), ("tell", 0, 0, 2))
        self.assertEqual([[2], [1], [3], [3], [0], [0]], found)

    def test_each_side_line_and_clue_of_each_size(self):
        for n in range(1, 5):
            lines = [(side, i) for side in range(4) for i in range(n)]
            for line in lines:
                for clue in range(n + 1):
                    found = ask(empty(n), ("tell", *line, clue), *[("clue", *other) for other in lines])
                    self.assertEqual([0], found[1])
                    self.assertEqual([[clue if other == line else 0] for other in lines], found[2:])

    def test_no_such_side_or_line(self):
        for n in range(1, 5):
            for side in (4, 5, BIG):
                self.refuses(empty(n), ("tell", side, 0, 1), -22)
            for i in (n, n + 1, BIG):
                self.refuses(empty(n), ("tell", 0, i, 1), -22)
                self.refuses(empty(n), ("tell", 3, i, 0), -22)

    def test_no_such_clue(self):
        for n in range(1, 5):
            for clue in (n + 1, 255, BIG):
                self.refuses(empty(n), ("tell", 1, 0, clue), -22)
        self.refuses(THREE, ("tell", BIG, BIG, BIG), -22)

    def test_towers_stand_as_they_did(self):
        found = ask(THREE, ("tell", 3, 0, 3), ("at", 0), ("at", 4), ("at", 1))
        self.assertEqual([[2], [0], [3, 7], [1, 7], [0, 2]], found)


class Clear(Unchanged):

    def test_answers_how_many_stood(self):
        self.assertEqual([[2], [2], [0]], ask(THREE, ("clear",), ("clear",)))
        for n in range(1, 5):
            for many in range(n * n + 1):
                start = written(n, [n] * many + [0] * (n * n - many), [0] * (4 * n))
                self.assertEqual([[many], [many], [0, n, 0, 1, 0]], ask(start, ("clear",), ("state",)))

    def test_all_towers_are_gone_and_the_clues_stay(self):
        bare = begin(" 1.. ", "....2", ".....", "2...3", " .2. ")
        self.assertEqual(text_of(bare), last(THREE, ("clear",), ("text",)))
        full = [1, 2, 3, 4, 2, 1, 4, 3, 3, 4, 1, 2, 4, 3, 2, 1]
        clues = [4, 2, 0, 1, 0, 2, 2, 4, 1, 0, 2, 4, 4, 2, 2, 0]
        self.assertEqual(text_of(written(4, [0] * 16, clues)), last(written(4, full, clues), ("clear",), ("text",)))

    def test_a_tower_can_be_built_again(self):
        found = ask(THREE, ("clear",), ("tear", 0), ("build", 0, 1), ("at", 0))
        self.assertEqual([[2], [2], [-2], [1], [1, 7]], found)

    def test_a_town_without_towers_is_changed_too(self):
        found = ask(empty(2), ("clear",), ("state",), ("back",), ("state",))
        self.assertEqual([[0], [0], [0, 2, 0, 1, 0], [0], [0, 2, 0, 0, 1]], found)


class Fill(Unchanged):

    def fills(self, n, cells, clues):
        """Each way in its turn, and none behind the last."""
        start = written(n, cells, clues)
        ways = ways_of(n, cells, clues)
        for k, way in enumerate(ways):
            found = ask(start, ("fill", k), ("text",), ("state",), ("back",), ("text",))
            self.assertEqual([cells.count(0)], found[1])
            self.assertEqual(text_of(written(n, way, clues)), found[2])
            self.assertEqual([n * n, n, 4 * n - clues.count(0), 1, 0], found[3])
            self.assertEqual(text_of(start), found[5])
        self.assertEqual([-2], last(start, ("fill", len(ways))))

    def test_each_way_of_a_town_without_towers(self):
        for n in range(1, 4):
            self.fills(n, [0] * (n * n), [0] * (4 * n))

    def test_with_some_towers_and_clues(self):
        self.fills(4, [1, 0, 0, 0, 0, 2, 0, 0, 0, 0, 3, 0, 0, 0, 0, 4], [0] * 16)
        self.fills(4, [0, 0, 0, 0, 0, 0, 4, 0, 0, 0, 0, 0, 0, 0, 0, 0], [2, 0, 0, 0] * 4)
        for k, (square, views) in enumerate(latin_squares(4)[::41]):
            cells = [height if (cell * 5 + k) % 3 == 0 else 0 for cell, height in enumerate(square)]
            clues = [view if (place * 7 + k) % 5 == 0 else 0 for place, view in enumerate(views)]
            self.fills(4, cells, clues)

    def test_as_nth_tells(self):
        start = begin(" .... ", "2.....", "...4..", "......", "......", " ..3. ")
        number = last(start, ("count",))[0]
        for k in (0, 1, number // 2, number - 1):
            found = ask(start, ("nth", k), ("fill", k), ("nth", 0), ("count",), ("done",))
            self.assertEqual([15], found[2])
            self.assertEqual([found[1], [1], [1]], found[3:])

    def test_a_full_town(self):
        full = begin(" .. ", ".12.", ".21.", " .. ")
        self.assertEqual([[4], [0], [4, 2, 0, 1, 0]], ask(full, ("fill", 0), ("state",)))
        self.assertEqual(text_of(full), last(full, ("fill", 0), ("text",)))
        self.refuses(full, ("fill", 1), -2)
        self.refuses(begin(" .. ", ".12.", ".12.", " .. "), ("fill", 0), -2)
        self.refuses(begin(" .. ", "112.", ".21.", " .. "), ("fill", 0), -2)

    def test_there_is_no_kth(self):
        for n, number in ((1, 1), (2, 2), (3, 12), (4, 576)):
            for k in (number, BIG):
                self.refuses(empty(n), ("fill", k), -2)
        for start in (begin(" .. ", "1..1", "....", " .. "), begin(" 22 ", "....", "....", " .. ")):
            for k in (0, 1, BIG):
                self.refuses(start, ("fill", k), -2)


if __name__ == "__main__":
    unittest.main()
