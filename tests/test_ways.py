"""Point 4: count, nth, sure, could and known; and that all ways are such, and no other."""

import itertools
import unittest

from tests.helper import BIG, ask, begin, empty, last, latin_squares, line_of, seen_along, ways_of, whole, written

CLUED = begin(" 4... ", "4.....", "......", "......", "......", " ..2. ")


def all_ways(start):
    """Every way that nth tells, and that it tells none behind them."""
    number = last(start, ("count",))[0]
    found = []
    for first in range(0, number + 1, 100):
        found += ask(start, *[("nth", k) for k in range(first, min(first + 100, number + 1))])[1:]
    if found[number] != [-2]:
        raise AssertionError("a way behind the last one")
    return found[:number]


class EachWay(unittest.TestCase):

    def goes_with(self, n, cells, clues):
        """All ways are such, in order, and as many as a walk through all Latin squares finds."""
        start = written(n, cells, clues)
        found = all_ways(start)
        for way in found:
            self.assertEqual(n * n, way[0])
            square = way[1:]
            self.assertEqual(n * n, len(square))
            for side, i in itertools.product(range(4), range(n)):
                heights = line_of(square, n, side, i)
                self.assertEqual(list(range(1, n + 1)), sorted(heights))
                self.assertIn(clues[side * n + i], (0, seen_along(heights)))
            for tower, height in zip(cells, square):
                self.assertIn(tower, (0, height))
        squares = [tuple(way[1:]) for way in found]
        self.assertEqual(sorted(set(squares)), squares)
        self.assertEqual(ways_of(n, cells, clues), squares)

    def test_without_towers_and_clues(self):
        for n, number in ((1, 1), (2, 2), (3, 12), (4, 576)):
            self.assertEqual([number], last(empty(n), ("count",)))
            self.goes_with(n, [0] * (n * n), [0] * (4 * n))

    def test_the_first_and_the_last(self):
        self.assertEqual([[0], [1, 1], [-2]], ask(empty(1), ("nth", 0), ("nth", 1)))
        self.assertEqual([[0], [4, 1, 2, 2, 1], [4, 2, 1, 1, 2], [-2]], ask(
            empty(2), ("nth", 0), ("nth", 1), ("nth", 2)))
        found = ask(empty(3), ("nth", 0), ("nth", 1), ("nth", 2), ("nth", 11), ("nth", 12))
        self.assertEqual([9, 1, 2, 3, 2, 3, 1, 3, 1, 2], found[1])
        self.assertEqual([9, 1, 2, 3, 3, 1, 2, 2, 3, 1], found[2])
        self.assertEqual([9, 1, 3, 2, 2, 1, 3, 3, 2, 1], found[3])
        self.assertEqual([9, 3, 2, 1, 2, 1, 3, 1, 3, 2], found[4])
        self.assertEqual([-2], found[5])
        found = ask(empty(4), ("nth", 0), ("nth", 575), ("nth", 576))
        self.assertEqual([16, 1, 2, 3, 4, 2, 1, 4, 3, 3, 4, 1, 2, 4, 3, 2, 1], found[1])
        self.assertEqual([16, 4, 3, 2, 1, 3, 4, 1, 2, 2, 1, 4, 3, 1, 2, 3, 4], found[2])
        self.assertEqual([-2], found[3])

    def test_one_clue(self):
        for n in range(1, 5):
            for side, i, clue in itertools.product(range(4), range(n), range(1, n + 1)):
                if n == 4 and i not in (0, 2):
                    continue
                clues = [0] * (4 * n)
                clues[side * n + i] = clue
                self.goes_with(n, [0] * (n * n), clues)

    def test_both_clues_of_a_line(self):
        for n in (1, 2, 3):
            for side, near, far in itertools.product((0, 1), range(1, n + 1), range(1, n + 1)):
                clues = [0] * (4 * n)
                clues[side * n] = near
                clues[(side + 2) * n] = far
                self.goes_with(n, [0] * (n * n), clues)

    def test_all_clues_of_the_smallest(self):
        for clues in itertools.product(range(2), repeat=4):
            for tower in range(2):
                self.goes_with(1, [tower], list(clues))

    def test_clues_of_a_square_are_enough_or_not(self):
        for square, views in latin_squares(4)[::37]:
            self.goes_with(4, [0] * 16, list(views))
        for square, views in latin_squares(3):
            self.goes_with(3, [0] * 9, list(views))

    def test_towers_alone(self):
        for cell, height in itertools.product(range(9), range(1, 4)):
            self.goes_with(3, [height if other == cell else 0 for other in range(9)], [0] * 12)
        for cells in itertools.product(range(3), repeat=4):
            self.goes_with(2, list(cells), [0] * 8)
        self.goes_with(4, [1, 0, 0, 0, 0, 2, 0, 0, 0, 0, 3, 0, 0, 0, 0, 4], [0] * 16)

    def test_towers_and_clues(self):
        for k, (square, views) in enumerate(latin_squares(4)[::23]):
            cells = [height if (cell * 7 + k) % 5 == 0 else 0 for cell, height in enumerate(square)]
            clues = [view if (place * 3 + k) % 4 == 0 else 0 for place, view in enumerate(views)]
            self.goes_with(4, cells, clues)


class NoWay(unittest.TestCase):

    def has_none(self, start):
        n = start[1]
        calls = [("count",), ("nth", 0), ("nth", BIG), ("sure", 0), ("could", 0), ("could", n * n - 1), ("known",)]
        expected = [[0], [-2], [-2], [-33], [0], [0], [-33]]
        self.assertEqual(expected, ask(start, *calls)[1:], start)

    def test_two_like_towers_in_a_row_or_column(self):
        self.has_none(begin(" .. ", ".11.", "....", " .. "))
        self.has_none(begin(" .. ", ".1..", ".1..", " .. "))
        self.has_none(begin(" ... ", ".3.3.", ".....", ".....", " ... "))
        self.has_none(begin(" .... ", "...2..", "......", "......", "...2..", " .... "))

    def test_against_a_clue(self):
        self.has_none(begin(" .. ", "11..", "....", " .. "))
        self.has_none(begin(" .. ", "....", ".1..", " 1. "))
        self.has_none(begin(" .... ", "......", "...1..", "......", "......", " ..4. "))

    def test_clues_against_one_another(self):
        self.has_none(begin(" .. ", "1..1", "....", " .. "))
        self.has_none(begin(" .. ", "2..2", "....", " .. "))
        self.has_none(begin(" .... ", "......", "3....3", "......", "......", " .... "))
        self.has_none(begin(" 1... ", "4.....", "......", "......", "......", " .... "))

    def test_a_full_town_against_its_clues(self):
        self.has_none(begin(" .. ", "112.", ".21.", " .. "))

    def test_none_though_each_line_has_some(self):
        self.has_none(begin(" .. ", "1...", "1...", " .. "))
        self.has_none(begin(" 22 ", "....", "....", " .. "))
        self.has_none(begin(" ... ", "1....", "1....", ".....", " ... "))
        self.has_none(begin(" .. ", ".1..", "..2.", " .. "))
        self.has_none(begin(" ... ", ".12..", "...3.", ".....", " ... "))

    def test_a_tower_against_all_ways_and_torn_down(self):
        start = begin(" .. ", "1...", "....", " .. ")
        found = ask(start, ("count",), ("build", 0, 1), ("count",), ("sure", 1), ("tear", 0), ("count",), ("sure", 1))
        self.assertEqual([[0], [1], [1], [0], [-33], [1], [1], [1]], found)


class Nth(unittest.TestCase):

    def test_there_is_no_kth(self):
        for n, number in ((1, 1), (2, 2), (3, 12), (4, 576)):
            for k in (number, number + 1, BIG):
                self.assertEqual([-2], last(empty(n), ("nth", k)))

    def test_the_town_is_as_it_was(self):
        self.assertEqual([0, 3], last(empty(2), ("nth", 1), ("at", 0)))


class Sure(unittest.TestCase):

    def test_the_same_in_all_ways(self):
        start = begin(" ... ", "3....", ".....", ".....", " ... ")
        self.assertEqual([[1], [2], [3], [-6], [-6], [-6]], ask(start, *[("sure", cell) for cell in range(6)])[1:])

    def test_where_a_tower_stands(self):
        self.assertEqual([[0], [1], [2], [-6]], ask(empty(4), ("build", 9, 2), ("sure", 9), ("sure", 8)))

    def test_what_follows_from_towers_alone(self):
        start = begin(" ... ", "..12.", ".....", ".....", " ... ")
        self.assertEqual([[3], [-6], [-6]], ask(start, ("sure", 0), ("sure", 3), ("sure", 8))[1:])

    def test_the_least_town(self):
        self.assertEqual([[0], [1], [1], [1, 0]], ask(empty(1), ("sure", 0), ("could", 0), ("known",)))

    def test_22_before_33_and_6(self):
        no_way = begin(" .. ", "1..1", "....", " .. ")
        for start in (no_way, empty(2)):
            for cell in (4, 5, BIG):
                self.assertEqual([[-22], [-22]], ask(start, ("sure", cell), ("could", cell))[1:])
        self.assertEqual([[-33], [-6]], [last(no_way, ("sure", 3)), last(empty(2), ("sure", 3))])

    def test_no_such_cell(self):
        for n in range(1, 5):
            for call in ("sure", "could"):
                self.assertEqual([-22], last(empty(n), (call, n * n)))
                self.assertGreater(last(empty(n), ("could", n * n - 1))[0], 0)


class Could(unittest.TestCase):

    def test_each_height_is_a_bit(self):
        for n in range(1, 5):
            found = ask(empty(n), *[("could", cell) for cell in range(n * n)])
            self.assertEqual([[(1 << n) - 1]] * (n * n), found[1:])

    def test_what_ways_have_there(self):
        start = begin(" .... ", "3.....", "......", "......", "......", " .... ")
        self.assertEqual([[3], [7], [15], [15]], ask(start, *[("could", cell) for cell in range(4)])[1:])

    def test_less_than_what_no_other_has(self):
        start = begin(" ... ", "1....", ".....", ".....", " ... ")
        self.assertEqual([[0, 7], [4]], ask(start, ("at", 0), ("could", 0))[1:])

    def test_where_a_tower_stands(self):
        for height in range(1, 5):
            self.assertEqual([1 << (height - 1)], last(empty(4), ("build", 3, height), ("could", 3)))


class Known(unittest.TestCase):

    def test_none_is(self):
        for n in (2, 3, 4):
            self.assertEqual([0], last(empty(n), ("known",)))

    def test_all_are(self):
        self.assertEqual([1, 0], last(empty(1), ("known",)))
        self.assertEqual([4, 0, 1, 2, 3], last(empty(2), ("tell", 3, 1, 2), ("known",)))

    def test_some_are_rising(self):
        start = begin(" ... ", ".....", ".....", ".....", " ..3 ")
        self.assertEqual([3, 2, 5, 8], last(start, ("known",)))

    def test_those_that_stand_are_too(self):
        self.assertEqual([2, 3, 10], last(empty(4), ("build", 10, 1), ("build", 3, 2), ("known",)))

    def test_known_and_sure_and_could_are_alike(self):
        for start in (CLUED, begin(" .2.. ", "3.....", "..1...", "......", ".....2", " .... ")):
            known = last(start, ("known",))
            found = ask(start, *[("sure", cell) for cell in range(16)])[1:]
            self.assertEqual(known[1:], [cell for cell in range(16) if found[cell] != [-6]])
            bits = ask(start, *[("could", cell) for cell in range(16)])[1:]
            for cell in known[1:]:
                self.assertEqual([1 << (found[cell][0] - 1)], bits[cell])


class NothingChanges(unittest.TestCase):

    def test_asking_for_ways_changes_nothing(self):
        for start in (CLUED, empty(3), begin(" .. ", "1..1", ".2..", " .. ")):
            n = start[1]
            asked = [("count",), ("nth", 0), ("nth", BIG), ("sure", 1), ("could", 1), ("known",), ("sure", BIG)]
            found = ask(start, *asked, *whole(n))
            self.assertEqual(ask(start, *whole(n))[1:], found[len(asked) + 1:])


class Corners(unittest.TestCase):

    def test_the_least_town(self):
        for clues in itertools.product(range(2), repeat=4):
            start = written(1, [0], clues)
            calls = [("count",), ("nth", 0), ("clash",), ("done",), ("seen", 0, 0), ("build", 0, 1), ("done",)]
            expected = [[0], [1], [1, 1], [0, 0], [0], [0], [1], [1]]
            self.assertEqual(expected, ask(start, *calls))

    def test_a_clue_of_n(self):
        for n in range(1, 5):
            for side in range(4):
                start = empty(n)
                line = [cell for cell in line_of(list(range(n * n)), n, side, n - 1)]
                found = ask(start, ("tell", side, n - 1, n), *[("sure", cell) for cell in line])
                self.assertEqual([[height] for height in range(1, n + 1)], found[2:])

    def test_a_clue_of_1(self):
        for n in range(1, 5):
            for side in range(4):
                cell = line_of(list(range(n * n)), n, side, 0)[0]
                self.assertEqual([n], last(empty(n), ("tell", side, 0, 1), ("sure", cell)))

    def test_both_clues_of_a_line(self):
        for n in range(1, 5):
            for near, far in itertools.product(range(1, n + 1), repeat=2):
                number = last(empty(n), ("tell", 3, 0, near), ("tell", 1, 0, far), ("count",))[0]
                fits = any(
                    seen_along(list(row)) == near and seen_along(list(row)[::-1]) == far
                    for row in itertools.permutations(range(1, n + 1)))
                self.assertEqual(fits, number > 0, (n, near, far))
        self.assertEqual([0], last(empty(4), ("tell", 0, 2, 3), ("tell", 2, 2, 3), ("count",)))


if __name__ == "__main__":
    unittest.main()
