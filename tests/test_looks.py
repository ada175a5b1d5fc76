"""Point 3: at, seen, clue, clash and done; and what holds from both ends."""

import itertools
import unittest

from tests.helper import BIG, EACH_LOOK, ask, begin, empty, last, whole, written

FOUR = begin(" 2..1 ", "31.4.2", "..4...", ".2..1.", "4....1", " .3.. ")
FULL = begin(" .... ", ".1234.", ".2143.", ".3412.", ".4321.", " .... ")


class At(unittest.TestCase):

    def test_the_tower_and_what_is_free(self):
        found = ask(FOUR, *[("at", cell) for cell in (0, 1, 2, 3, 5, 8, 11, 15)])
        self.assertEqual([5], found[0])
        expected = [[1, 5], [0, 6], [4, 14], [0, 6], [4, 15], [2, 14], [1, 13], [0, 14]]
        self.assertEqual(expected, found[1:])

    def test_its_own_tower_takes_nothing(self):
        for height in range(1, 5):
            self.assertEqual([height, 15], last(empty(4), ("build", 6, height), ("at", 6)))

    def test_likes_in_its_row_or_column_do(self):
        like = begin(" .. ", ".11.", "....", " .. ")
        self.assertEqual([[2], [1, 2], [1, 2], [0, 2], [0, 2]], ask(like, *[("at", cell) for cell in range(4)]))

    def test_only_row_and_column_count(self):
        found = ask(empty(4), ("build", 5, 3), *[("at", cell) for cell in range(16)])
        crossing = (1, 4, 6, 7, 9, 13)
        for cell in range(16):
            bits = 11 if cell in crossing else 15
            self.assertEqual([3 if cell == 5 else 0, bits], found[cell + 2])

    def test_a_full_town_leaves_each_its_own(self):
        heights = [1, 2, 3, 4, 2, 1, 4, 3, 3, 4, 1, 2, 4, 3, 2, 1]
        found = ask(FULL, *[("at", cell) for cell in range(16)])
        self.assertEqual([[height, 1 << (height - 1)] for height in heights], found[1:])

    def test_nothing_is_free(self):
        start = begin(" ... ", "..12.", ".3...", ".....", " ... ")
        self.assertEqual([0, 0], last(start, ("at", 0)))

    def test_no_such_cell(self):
        for n in range(1, 5):
            for cell in (n * n, n * n + 1, BIG):
                self.assertEqual([-22], last(empty(n), ("at", cell)))


class Seen(unittest.TestCase):

    def test_from_each_side_of_each_line(self):
        found = ask(FULL, *[("seen", side, i) for side in range(4) for i in range(4)])
        told = [4, 2, 2, 1, 1, 2, 2, 4, 1, 2, 2, 4, 4, 2, 2, 1]
        self.assertEqual([[number] for number in told], found[1:])

    def test_lines_run_from_their_sides(self):
        start = begin(" ... ", "..1..", ".231.", "..2..", " ... ")
        found = ask(start, ("seen", 0, 1), ("seen", 2, 1), ("seen", 3, 1), ("seen", 1, 1))
        self.assertEqual([[2], [2], [2], [2]], found[1:])
        start = begin(" ... ", ".12..", ".3...", ".2...", " ... ")
        found = ask(start, ("seen", 0, 0), ("seen", 2, 0), ("seen", 3, 0), ("seen", 1, 0))
        self.assertEqual([[2], [2], [2], [1]], found[1:])

    def test_a_cell_without_a_tower_is_nothing(self):
        start = begin(" .... ", "..2.3.", "......", "...4..", ".1....", " .... ")
        asked = [(3, 0, 2), (1, 0, 1), (3, 1, 0), (1, 1, 0), (0, 0, 1), (2, 0, 1), (0, 1, 1), (0, 2, 1), (2, 3, 1)]
        for side, i, number in asked:
            self.assertEqual([number], last(start, ("seen", side, i)), (side, i))

    def test_likes_are_not_higher(self):
        start = begin(" ... ", ".222.", ".131.", ".323.", " ... ")
        found = ask(start, *[("seen", side, i) for side in (3, 1) for i in range(3)])
        self.assertEqual([[1], [2], [1], [1], [2], [1]], found[1:])

    def test_no_such_side_or_line(self):
        for n in range(1, 5):
            for call in ("seen", "clue"):
                for side, i in ((4, 0), (BIG, 0), (0, n), (1, n), (2, BIG), (3, n), (BIG, BIG)):
                    self.assertEqual([-22], last(empty(n), (call, side, i)))

    def test_from_both_ends_no_more_than_n_and_1(self):
        for n in range(1, 5):
            most = 0
            for heights in itertools.product(range(n + 1), repeat=n):
                start = written(n, list(heights) + [0] * (n * n - n), [0] * (4 * n))
                found = ask(start, ("seen", 3, 0), ("seen", 1, 0))
                together = found[1][0] + found[2][0]
                self.assertLessEqual(together, n + 1)
                most = max(most, together)
            self.assertEqual(n + 1, most)


class Clue(unittest.TestCase):

    def test_it_is_told_or_0(self):
        found = ask(FOUR, *[("clue", side, i) for side in range(4) for i in range(4)])
        told = [2, 0, 0, 1, 2, 0, 0, 1, 0, 3, 0, 0, 3, 0, 0, 4]
        self.assertEqual([[number] for number in told], found[1:])


class Clash(unittest.TestCase):

    def clashes(self, expected, *lines):
        self.assertEqual(expected, last(begin(*lines), ("clash",)), lines)

    def test_none(self):
        for n in range(1, 5):
            self.assertEqual([0, 0], last(empty(n), ("clash",)))
        self.assertEqual([0, 0], last(FULL, ("clash",)))
        self.assertEqual([0, 0], last(FOUR, ("clash",)))

    def test_pairs_in_rows_and_columns(self):
        self.clashes([1, 0], " .. ", ".11.", "....", " .. ")
        self.clashes([1, 0], " .. ", ".2..", ".2..", " .. ")
        self.clashes([0, 0], " .. ", ".1..", "..1.", " .. ")
        self.clashes([2, 0], " .. ", ".12.", ".12.", " .. ")
        self.clashes([3, 0], " ... ", ".333.", ".....", ".....", " ... ")
        self.clashes([4, 0], " ... ", ".1.1.", ".....", ".1.1.", " ... ")
        self.clashes([48, 0], " .... ", ".2222.", ".2222.", ".2222.", ".2222.", " .... ")

    def test_cells_at_a_rows_end_and_the_next_ones_beginning(self):
        self.clashes([0, 0], " ... ", "...1.", ".1...", ".....", " ... ")

    def test_clues_that_are_not_seen_so(self):
        self.clashes([0, 0], " .. ", "212.", "....", " .. ")
        self.clashes([0, 1], " .. ", "112.", "....", " .. ")
        self.clashes([0, 2], " .. ", "1122", "....", " .. ")
        self.clashes([0, 1], " 1. ", ".1..", ".2..", " 1. ")
        self.clashes([0, 2], " 1. ", ".1..", ".2..", " 2. ")
        self.clashes([4, 8], " 22 ", "2112", "2112", " 22 ")

    def test_only_of_lines_with_a_tower_in_each_cell(self):
        self.clashes([0, 0], " ... ", "332.1", ".....", ".....", " ... ")
        self.clashes([0, 0], " .. ", "2...", "....", " 2. ")
        self.clashes([0, 0], " .. ", "12..", ".1..", " .. ")

    def test_a_line_with_likes_is_seen_too(self):
        self.clashes([1, 1], " .. ", "2111", "....", " .. ")

    def test_all_clues_of_a_full_town(self):
        cells = [1, 2, 3, 4, 2, 1, 4, 3, 3, 4, 1, 2, 4, 3, 2, 1]
        seen = [answer[0] for answer in ask(FULL, *[("seen", side, i) for side in range(4) for i in range(4)])[1:]]
        self.assertEqual([0, 0], last(written(4, cells, seen), ("clash",)))
        for k in range(16):
            others = seen[:k] + [seen[k] % 4 + 1] + seen[k + 1:]
            self.assertEqual([[0, 1], [0]], ask(written(4, cells, others), ("clash",), ("done",))[1:])


class Done(unittest.TestCase):

    def test_done(self):
        self.assertEqual([1], last(FULL, ("done",)))
        self.assertEqual([1], last(begin(" 21 ", "2121", "1212", " 12 "), ("done",)))

    def test_a_cell_has_no_tower(self):
        for cell in range(16):
            self.assertEqual([0], last(FULL, ("tear", cell), ("done",)))
        for n in range(1, 5):
            self.assertEqual([0], last(empty(n), ("done",)))

    def test_two_like_towers(self):
        self.assertEqual([0], last(FULL, ("tear", 5), ("build", 5, 2), ("done",)))
        self.assertEqual([0], last(begin(" .. ", ".12.", ".12.", " .. "), ("done",)))

    def test_a_clue_is_not_seen_so(self):
        self.assertEqual([1], last(FULL, ("tell", 0, 0, 4), ("done",)))
        for clue in (1, 2, 3):
            self.assertEqual([0], last(FULL, ("tell", 0, 0, clue), ("done",)))

    def test_it_becomes_done_and_undone(self):
        found = ask(
            FULL, ("tell", 0, 0, 3), ("done",), ("tell", 0, 0, 4), ("done",), ("tear", 0), ("done",), ("build", 0, 1),
            ("done",))
        self.assertEqual([[16], [0], [0], [3], [1], [1], [0], [16], [1]], found)


class NothingChanges(unittest.TestCase):

    def test_looking_changes_nothing(self):
        found = ask(FOUR, *whole(4), *whole(4))
        size = len(whole(4))
        self.assertEqual(found[1:size + 1], found[size + 1:])

    def test_none_of_the_calls_that_look_does(self):
        for start in (FOUR, FULL, empty(1), empty(4)):
            for look in EACH_LOOK:
                found = ask(start, ("text",), ("state",), look, ("text",), ("state",))
                self.assertEqual(found[1:3], found[4:], look)


if __name__ == "__main__":
    unittest.main()
