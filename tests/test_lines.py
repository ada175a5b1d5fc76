"""Points 5 and 6: line, hint and solve."""

import itertools
import unittest

from tests.helper import (
    BIG, Unchanged, ask, begin, empty, last, latin_squares, line_of, seen_along, text_of, written)

FULL = begin(" .... ", ".1234.", ".2143.", ".3412.", ".4321.", " .... ")


def rows_of(n, towers, near, far):
    """The ways of a line by itself, by a walk through all orders of the heights."""
    return [
        row for row in itertools.permutations(range(1, n + 1))
        if all(tower in (0, height) for tower, height in zip(towers, row))
        and near in (0, seen_along(list(row))) and far in (0, seen_along(list(row[::-1])))]


def told_of(rows):
    """What line answers of these."""
    if not rows:
        return [-33]
    return [len(rows)] + [sum(1 << (height - 1) for height in set(heights)) for heights in zip(*rows)]


class Line(Unchanged):

    def tells(self, n, side, i, towers, near, far):
        """A town in which this line alone has towers and clues, and what it tells from both its sides."""
        cells = [0] * (n * n)
        for cell, tower in zip(line_of(range(n * n), n, side, i), towers):
            cells[cell] = tower
        other = (side + 2) % 4
        clues = [0] * (4 * n)
        clues[side * n + i] = near
        clues[other * n + i] = far
        expected = told_of(rows_of(n, towers, near, far))
        found = ask(written(n, cells, clues), ("line", side, i), ("line", other, i))
        self.assertEqual(expected, found[1], (side, i, towers, near, far))
        self.assertEqual(expected[:1] + expected[:0:-1], found[2], (side, i, towers, near, far))

    def test_without_towers_and_clues(self):
        for n, number in ((1, 1), (2, 2), (3, 6), (4, 24)):
            for side, i in itertools.product(range(4), range(n)):
                self.assertEqual([number] + [(1 << n) - 1] * n, last(empty(n), ("line", side, i)))

    def test_one_clue_from_each_side(self):
        # Of 4 towers 3 are seen: 1 2 4 3, 1 3 2 4, 1 3 4 2, 2 1 3 4, 2 3 1 4, 2 3 4 1.
        for side, i in itertools.product(range(4), range(4)):
            found = ask(empty(4), ("tell", side, i, 3), ("line", side, i), ("line", (side + 2) % 4, i))
            self.assertEqual([[6, 3, 7, 15, 15], [6, 15, 15, 7, 3]], found[2:])

    def test_both_clues_from_each_side(self):
        # 3 from one end and 2 from the other: 1 2 4 3, 1 3 4 2, 2 3 4 1.
        for side, i in itertools.product(range(4), range(4)):
            told = [("tell", side, i, 3), ("tell", (side + 2) % 4, i, 2)]
            found = ask(empty(4), *told, ("line", side, i), ("line", (side + 2) % 4, i))
            self.assertEqual([[3, 3, 6, 8, 7], [3, 7, 8, 6, 3]], found[3:])

    def test_the_other_sides_clue_alone(self):
        self.assertEqual([1, 4, 2, 1], last(empty(3), ("tell", 1, 1, 3), ("line", 3, 1)))
        self.assertEqual([1, 4, 2, 1], last(empty(3), ("tell", 2, 2, 3), ("line", 0, 2)))

    def test_with_towers_in_it(self):
        # 1 3 2 4, 1 3 4 2, 2 3 1 4, 2 3 4 1; with the other clue 1 3 4 2 and 2 3 4 1.
        start = begin(" .... ", "......", "3.3...", "......", "......", " .... ")
        found = ask(start, ("line", 3, 1), ("line", 1, 1), ("tell", 1, 1, 2), ("line", 3, 1), ("line", 1, 1))
        self.assertEqual([4, 3, 4, 11, 11], found[1])
        self.assertEqual([4, 11, 11, 4, 3], found[2])
        self.assertEqual([2, 3, 4, 8, 3], found[4])
        self.assertEqual([2, 3, 8, 4, 3], found[5])

    def test_a_line_with_a_tower_in_each_cell(self):
        found = ask(FULL, ("line", 3, 1), ("line", 1, 1), ("line", 0, 2), ("line", 2, 2))
        self.assertEqual([[1, 2, 1, 8, 4], [1, 4, 8, 1, 2], [1, 4, 8, 1, 2], [1, 2, 1, 8, 4]], found[1:])

    def test_all_lines_of_two_and_three(self):
        for n in (1, 2, 3):
            for near, far in itertools.product(range(n + 1), repeat=2):
                for k, towers in enumerate(itertools.product(range(n + 1), repeat=n)):
                    self.tells(n, k % 4, (k + near) % n, towers, near, far)

    def test_all_clues_and_one_tower_or_two_of_four(self):
        for near, far in itertools.product(range(5), repeat=2):
            for k, (one, two) in enumerate(itertools.product(range(5), repeat=2)):
                towers = [0] * 4
                towers[k % 4] = one
                towers[(k + near + 1) % 4] = two
                self.tells(4, (k + far) % 4, k % 4, towers, near, far)

    def test_other_lines_are_nothing_to_it(self):
        start = begin(" 4... ", "..2...", "4...1.", "1.....", "...3..", " ...1 ")
        for side in (1, 3):
            self.assertEqual([24, 15, 15, 15, 15], last(start, ("tear", 1), ("line", side, 0)))
        self.assertEqual([1, 1, 2, 4, 8], last(start, ("tear", 7), ("line", 0, 0)))

    def test_no_way(self):
        self.refuses(begin(" .. ", "1..1", "....", " .. "), ("line", 3, 0), -33)
        self.refuses(begin(" .. ", "1..1", "....", " .. "), ("line", 1, 0), -33)
        self.refuses(begin(" ..3 ", ".....", ".....", ".....", " ..2 "), ("line", 2, 2), -33)
        self.refuses(begin(" ..3 ", ".....", ".....", ".....", " ..2 "), ("line", 0, 2), -33)
        self.refuses(begin(" .... ", ".2..2.", "......", "......", "......", " .... "), ("line", 3, 0), -33)
        self.refuses(begin(" .... ", "......", "......", "41.2..", "......", " .... "), ("line", 1, 2), -33)
        self.assertEqual([2, 3, 3], last(begin(" .. ", "1..1", "....", " .. "), ("line", 3, 1)))

    def test_no_such_side_or_line(self):
        for n in range(1, 5):
            for side, i in ((4, 0), (BIG, 0), (0, n), (1, n), (2, BIG), (3, n), (BIG, BIG)):
                self.refuses(empty(n), ("line", side, i), -22)

    def test_22_before_33(self):
        no_way = begin(" 11 ", "1..1", "1..1", " 11 ")
        for side, i in ((4, 0), (0, 2), (3, 2), (BIG, BIG)):
            self.refuses(no_way, ("line", side, i), -22)
        for side, i in itertools.product(range(4), range(2)):
            self.refuses(no_way, ("line", side, i), -33)


class Hint(Unchanged):

    def hints(self, expected, *lines):
        self.assertEqual(expected, last(begin(*lines), ("hint",)), lines)

    def test_the_first_cell_of_a_row(self):
        self.hints([0, 1], " ... ", "3....", ".....", ".....", " ... ")
        self.hints([0, 3], " ... ", "....3", ".....", ".....", " ... ")
        self.hints([3, 3], " ... ", ".....", "1....", ".....", " ... ")
        self.hints([8, 3], " ... ", ".....", ".....", "....1", " ... ")
        self.hints([2, 3], " ... ", ".12..", ".....", ".....", " ... ")
        self.hints([1, 3], " ... ", "2...2", ".....", ".....", " ... ")

    def test_cells_from_the_left_on(self):
        self.hints([4, 1], " .... ", "......", "4.....", "......", "......", " .... ")
        self.hints([5, 2], " .... ", "......", "41....", "......", "......", " .... ")
        self.hints([7, 4], " .... ", "......", "4123..", "......", "......", " .... ")
        self.hints([4, 4], " .... ", "......", ".....4", "......", "......", " .... ")

    def test_the_first_row(self):
        self.hints([3, 1], " ... ", ".....", "3....", "3....", " ... ")
        self.hints([6, 1], " ... ", ".....", ".123.", "3....", " ... ")

    def test_a_cell_that_only_a_column_tells(self):
        self.hints([1, 1], " .3. ", ".....", ".....", ".....", " ... ")
        self.hints([1, 3], " ... ", ".....", ".....", ".....", " .3. ")
        self.hints([2, 3], " ..1 ", ".....", ".....", ".....", " ... ")
        self.hints([6, 3], " ... ", ".....", ".....", ".....", " 1.. ")
        self.hints([7, 2], " ... ", "..1..", "..3..", ".....", " ... ")

    def test_cells_of_a_column_from_above_down(self):
        self.hints([2, 1], " ..4. ", "......", "......", "......", "......", " .... ")
        self.hints([6, 2], " ..4. ", "...1..", "......", "......", "......", " .... ")
        self.hints([14, 4], " ..4. ", "...1..", "...2..", "...3..", "......", " .... ")
        self.hints([2, 4], " .... ", "......", "......", "......", "......", " ..4. ")

    def test_the_first_column(self):
        self.hints([7, 3], " ... ", ".....", ".....", ".....", " .11 ")
        self.hints([6, 3], " ..3 ", ".....", ".....", ".....", " 1.. ")

    def test_rows_ahead_of_columns(self):
        self.hints([6, 3], " 3.. ", ".....", ".....", "1....", " ... ")
        self.hints([8, 3], " 333 ", ".....", ".....", "....1", " ... ")

    def test_a_row_and_a_column_that_tell_a_cell_otherwise(self):
        self.hints([0, 2], " 2. ", "1...", "....", " .. ")
        self.hints([0, 1], " 1. ", "2...", "....", " .. ")

    def test_the_least_town(self):
        self.hints([0, 1], " . ", "...", " . ")
        self.hints([0, 1], " 1 ", "1.1", " 1 ")
        self.hints([-6], " . ", ".1.", " . ")

    def test_a_line_that_has_no_way(self):
        for lines in (
                (" .. ", "1..1", "....", " .. "), (" .. ", "....", "1..1", " .. "), (" 2. ", "....", "....", " 2. "),
                (" .2 ", "....", "....", " .2 "), (" .. ", ".11.", "....", " .. "), (" .. ", "..2.", "..2.", " .. ")):
            self.refuses(begin(*lines), ("hint",), -33)
            self.refuses(begin(*lines), ("solve",), -33)

    def test_33_though_another_line_tells_a_cell(self):
        for lines in (
                (" ... ", "3....", ".....", "3...3", " ... "), (" ... ", "3...3", ".....", "3....", " ... "),
                (" ..3 ", "3....", ".....", ".....", " ..3 "), (" 3.3 ", ".....", ".....", ".....", " 3.. "),
                (" 3.3 ", ".....", ".....", ".....", " ..2 "), (" ... ", "..2..", "..2..", "3....", " ... ")):
            self.refuses(begin(*lines), ("hint",), -33)
            self.refuses(begin(*lines), ("solve",), -33)

    def test_no_line_tells_a_cell(self):
        for n in (2, 3, 4):
            self.refuses(empty(n), ("hint",), -6)
            self.refuses(empty(n), ("solve",), -6)
        for start in (FULL, begin(" ... ", "2....", "..1..", ".....", " ..2 "), begin(" . ", "111", " . ")):
            self.refuses(start, ("hint",), -6)
            self.refuses(start, ("solve",), -6)

    def test_a_cell_that_is_sure_may_be_told_by_no_line(self):
        start = begin(" ... ", ".1...", "..1..", ".....", " ... ")
        self.assertEqual([[1], [-6]], ask(start, ("sure", 8), ("hint",))[1:])

    def test_no_way_though_each_line_has_some(self):
        self.hints([0, 2], " .. ", "1...", "1...", " .. ")
        self.hints([0, 1], " 22 ", "....", "....", " .. ")
        self.hints([-6], " ... ", ".1...", "..1..", "...2.", " ... ")


class Solve(Unchanged):

    def solves(self, start, number, *lines):
        found = ask(start, ("solve",), ("text",), ("state",))
        self.assertEqual([[number], text_of(begin(*lines))], found[1:3])
        self.assertEqual([1, 0], found[3][3:])

    def test_a_line(self):
        self.solves(
            begin(" ... ", "3....", ".....", ".....", " ... "), 3, " ... ", "3123.", ".....", ".....", " ... ")

    def test_one_that_is_built_makes_another_told(self):
        self.solves(begin(" .. ", "2...", "....", " .. "), 4, " .. ", "212.", ".21.", " .. ")
        self.solves(begin(" .. ", "....", "..1.", " .. "), 3, " .. ", ".12.", ".21.", " .. ")
        self.solves(
            begin(" ... ", "3....", ".2...", ".....", " ... "), 4, " ... ", "3123.", ".2...", ".3...", " ... ")
        self.solves(
            begin(" ... ", "3....", ".2.1.", ".....", " ... "), 7, " ... ", "3123.", ".231.", ".312.", " ... ")

    def test_the_least_town(self):
        self.solves(empty(1), 1, " . ", ".1.", " . ")
        self.assertEqual([-6], last(empty(1), ("solve",), ("solve",)))

    def test_a_line_that_has_no_way_any_more(self):
        self.solves(begin(" .. ", "1...", "1...", " .. "), 3, " .. ", "121.", "12..", " .. ")
        self.solves(begin(" 2. ", "1...", "....", " .. "), 1, " 2. ", "12..", "....", " .. ")
        self.solves(begin(" 22 ", "....", "....", " .. "), 2, " 22 ", ".12.", "....", " .. ")
        found = ask(begin(" 2. ", "1...", "....", " .. "), ("solve",), ("hint",), ("solve",), ("state",))
        self.assertEqual([[1], [-33], [-33], [1, 2, 2, 1, 0]], found[1:])

    def test_clues_stay(self):
        start = begin(" .3. ", "2....", ".....", "....1", " 1.. ")
        found = ask(start, *[("clue", side, i) for side in range(4) for i in range(3)])
        behind = ask(start, ("solve",), *[("clue", side, i) for side in range(4) for i in range(3)])
        self.assertGreater(behind[1][0], 0)
        self.assertEqual(found[1:], behind[2:])

    def test_one_solve_is_one_change(self):
        start = begin(" ... ", "3....", ".2.1.", ".....", " ... ")
        found = ask(
            start, ("state",), ("solve",), ("state",), ("back",), ("text",), ("state",), ("again",), ("count",),
            ("state",), ("solve",), ("state",))
        self.assertEqual([[2, 3, 1, 0, 0], [7], [9, 3, 1, 1, 0], [0], text_of(start)], found[1:6])
        self.assertEqual([[2, 3, 1, 0, 1], [0], [1], [9, 3, 1, 1, 0], [-6], [9, 3, 1, 1, 0]], found[6:])

    def test_as_if_each_hint_was_built(self):
        for n in (2, 3, 4):
            for k, (square, views) in enumerate(latin_squares(n)[::1 + n * n * n // 3]):
                cells = [height if (cell * 7 + k) % 6 == 0 else 0 for cell, height in enumerate(square)]
                clues = [view if (place * 3 + k) % 5 < 3 else 0 for place, view in enumerate(views)]
                # One clue of some towns is another, so that some have no way.
                clues[k % (4 * n)] = k % (n + 1)
                self.goes_hint_by_hint(written(n, cells, clues))

    def goes_hint_by_hint(self, start):
        builds = []
        hint = last(start, ("hint",))
        refusal = hint
        while len(hint) == 2:
            builds.append(("build", *hint))
            hint = last(start, *builds, ("hint",))
        found = ask(start, ("solve",), ("text",), ("hint",))
        self.assertEqual([len(builds)] if builds else refusal, found[1])
        self.assertEqual([last(start, *builds, ("text",)), hint], found[2:])


if __name__ == "__main__":
    unittest.main()
