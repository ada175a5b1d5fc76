"""What holds, a to e, over many towns; and the corners that the document names, for all calls together."""

import itertools
import random
import unittest

from tests.helper import (
    ask, begin, empty, last, latin_squares, line_of, slow_answers, text_of, ways_of, whole, written)


def some_towns(number):
    """So many towns (n, cells, clues) with some of a square's towers and clues, of which a few are another."""
    chance = random.Random(number)
    for k in range(number):
        n = (1, 2, 3, 4, 3, 4)[k % 6]
        square, views = chance.choice(latin_squares(n))
        few, fewer = chance.randrange(2, 11), chance.randrange(1, 11)
        cells = [height if chance.randrange(few) == 0 else 0 for height in square]
        clues = [view if chance.randrange(10) < fewer else 0 for view in views]
        if k % 4 == 0:
            clues[chance.randrange(4 * n)] = chance.randrange(n + 1)
        if k % 7 == 0:
            cells[chance.randrange(n * n)] = chance.randrange(n + 1)
        yield n, cells, clues


def ways_here(*calls):
    """All ways as the program tells them behind these calls, 150 at most, and how many there are."""
    number = last(*calls, ("count",))[0]
    return [number] + ask(*calls, *[("nth", k) for k in range(min(number, 150))])[len(calls):]


class AllWaysAreSuch(unittest.TestCase):
    """a"""

    def test_and_there_is_no_other(self):
        for n, cells, clues in some_towns(120):
            ways = ways_of(n, cells, clues)
            self.assertEqual([len(ways)] + [[n * n, *way] for way in ways[:150]], ways_here(written(n, cells, clues)))

    def test_a_way_that_is_filled_is_done(self):
        for n, cells, clues in some_towns(60):
            start = written(n, cells, clues)
            number = last(start, ("count",))[0]
            for k in {0, number // 2, number - 1} if number else ():
                found = ask(start, ("nth", k), ("fill", k), ("done",), ("clash",), ("count",), ("nth", 0), ("nth", 1))
                self.assertEqual([[1], [0, 0], [1], found[1], [-2]], found[3:])
            self.assertEqual([-2], last(start, ("fill", number)))


class WhatALineTells(unittest.TestCase):
    """b"""

    def test_is_so_in_all_ways_and_leaves_them_when_it_is_built(self):
        told = 0
        for n, cells, clues in some_towns(100):
            start = written(n, cells, clues)
            ways = ways_of(n, cells, clues)
            for side, i in itertools.product(range(4), range(n)):
                line = last(start, ("line", side, i))
                for cell, bits in zip(line_of(range(n * n), n, side, i), line[1:]):
                    if cells[cell] == 0 and bits.bit_count() == 1:
                        told += 1
                        self.is_so(start, ways, cell, bits.bit_length())
        self.assertGreater(told, 500)

    def is_so(self, start, ways, cell, height):
        for way in ways:
            self.assertEqual(height, way[cell])
        found = ask(start, ("build", cell, height), ("count",), *[("nth", k) for k in range(len(ways[:20]))])
        self.assertEqual([[len(ways)]] + [[len(way), *way] for way in ways[:20]], found[2:])

    def test_no_more_is_in_a_way_than_its_lines_have(self):
        for n, cells, clues in some_towns(60):
            start = written(n, cells, clues)
            for side, i in itertools.product(range(4), range(n)):
                line = last(start, ("line", side, i))
                for cell, bits in zip(line_of(range(n * n), n, side, i), line[1:]):
                    could = last(start, ("could", cell))[0]
                    self.assertEqual(could, could & bits)
                if line == [-33]:
                    self.assertEqual([0], last(start, ("count",)))

    def test_hint_and_solve_leave_the_ways(self):
        solved = 0
        for n, cells, clues in some_towns(120):
            start = written(n, cells, clues)
            before = ways_here(start)
            hint = last(start, ("hint",))
            if len(hint) == 2:
                self.assertEqual(before, ways_here(start, ("build", *hint)))
            answer = last(start, ("solve",))
            self.assertEqual(before, ways_here(start, ("solve",)))
            solved += answer[0] > 0
            if hint == [-33]:
                self.assertEqual([0], before)
        self.assertGreater(solved, 40)


class FromBothEnds(unittest.TestCase):
    """c"""

    def test_no_more_than_n_and_1_together(self):
        for n in range(1, 5):
            squares = [list(square) for square, views in latin_squares(n)[::1 + n]]
            chance = random.Random(n)
            squares += [[chance.randrange(1, n + 1) for cell in range(n * n)] for k in range(50)]
            for square in squares:
                views = last(written(n, square, [0] * (4 * n)), ("views",))[1:]
                for side, i in itertools.product((0, 1), range(n)):
                    self.assertLessEqual(views[side * n + i] + views[(side + 2) * n + i], n + 1)

    def test_clues_above_it_have_no_way(self):
        for n in range(1, 5):
            for side, near, far in itertools.product((0, 1), range(1, n + 1), range(1, n + 1)):
                told = [("tell", side, n - 1, near), ("tell", side + 2, n - 1, far)]
                found = ask(empty(n), *told, ("line", side, n - 1), ("count",), ("hint",), ("spare",))[3:]
                if near + far > n + 1:
                    self.assertEqual([[-33], [0], [-33], [-33]], found)


class AllIsAlike(unittest.TestCase):
    """d"""

    def test_turned_and_mirrored(self):
        for n, cells, clues in some_towns(60):
            start = written(n, cells, clues)
            asked = [("clash",), ("done",), ("count",)]
            alone = ask(start, *asked)[1:]
            for changes in ([("turn",)], [("mirror",)], [("turn",), ("turn",), ("mirror",)], [("turn",)] * 3):
                self.assertEqual(alone, ask(start, *changes, *asked)[len(changes) + 1:])
            lines = [("line", side, i) for side in range(4) for i in range(n)]
            old = ask(start, *lines)[1:]
            turned = ask(start, ("turn",), *lines)[2:]
            mirrored = ask(start, ("mirror",), *lines)[2:]
            self.assertEqual(old[3 * n:][::-1] + old[:n] + old[n:2 * n][::-1] + old[2 * n:3 * n], turned)
            self.assertEqual(old[:n][::-1] + old[3 * n:] + old[2 * n:3 * n][::-1] + old[n:2 * n], mirrored)
            self.assertEqual(len(last(start, ("spare",))), len(last(start, ("turn",), ("spare",))))
            self.assertEqual(len(last(start, ("spare",))), len(last(start, ("mirror",), ("spare",))))

    def test_what_is_spared_leaves_the_ways(self):
        spared = 0
        for n, cells, clues in some_towns(80):
            start = written(n, cells, clues)
            answer = last(start, ("spare",))
            before = ways_here(start)
            if before == [0]:
                self.assertEqual([-33], answer)
                continue
            for place in range(4 * n):
                without = ("tell", place // n, place % n, 0)
                if place in answer[1:]:
                    spared += 1
                    self.assertGreater(clues[place], 0)
                    self.assertEqual(before, ways_here(start, without))
                elif clues[place]:
                    self.assertGreater(last(start, without, ("count",))[0], before[0])
        self.assertGreater(spared, 50)

    def test_a_full_town_is_among_the_ways_of_its_own_clues(self):
        for n in range(1, 5):
            for square, views in latin_squares(n)[::1 + n * n]:
                start = written(n, square, [0] * (4 * n))
                calls = [start, ("ask",), ("done",), ("clear",)]
                found = ask(*calls)
                self.assertEqual([[4 * n], [1], [n * n]], found[1:])
                self.assertIn([n * n, *square], ways_here(*calls)[1:])

    def test_a_town_with_likes_is_not(self):
        for cells in itertools.product((1, 2), repeat=4):
            if cells not in ((1, 2, 2, 1), (2, 1, 1, 2)):
                found = ask(written(2, cells, [0] * 8), ("ask",), ("count",), ("clear",))
                self.assertEqual([[8], [0], [4]], found[1:])


class ReadAsItIsWritten(unittest.TestCase):
    """e"""

    def test_many_towns(self):
        for n, cells, clues in some_towns(100):
            start = written(n, cells, clues)
            text = last(start, ("text",))
            self.assertEqual(text_of(start), text)
            found = ask(start, ("state",), ("start", n, text[1:]), ("state",), ("text",))
            self.assertEqual(found[:2] + [text], found[2:])

    def test_all_can_be_taken_back_and_done_again(self):
        for seed, (n, cells, clues) in enumerate(some_towns(60)):
            chance = random.Random(seed)
            changes = [self.change(chance, n) for k in range(20)]
            start = written(n, cells, clues)
            answered = ask(start, *changes)[1:]
            made = [change for change, answer in zip(changes, answered) if answer[0] >= 0]
            towns = [text_of(start)] + ask(start, *[call for change in made for call in (change, ("text",))])[2::2]
            size = len(made)
            back = [call for k in range(size) for call in (("back",), ("text",))]
            again = [call for k in range(size) for call in (("again",), ("text",))]
            found = ask(start, *changes, *back, *again)[21:]
            self.assertEqual([[k] for k in range(size - 1, -1, -1)] * 2, found[::2])
            self.assertEqual(towns[-2::-1] + towns[1:], found[1::2])

    def change(self, chance, n):
        return chance.choice([
            ("build", chance.randrange(n * n), chance.randrange(1, n + 1)), ("tear", chance.randrange(n * n)),
            ("tell", chance.randrange(4), chance.randrange(n), chance.randrange(n + 1)), ("solve",),
            ("fill", chance.randrange(3)), ("clear",), ("ask",), ("turn",), ("mirror",)])


class Corners(unittest.TestCase):

    def goes_as_the_slow_town(self, *calls):
        """All calls on one town, answered as the second, slow one answers them."""
        n = calls[0][1]
        behind = [("solve",), ("text",), ("fill", 0), ("text",), ("ask",), ("back",), ("back",), ("turn",), ("mirror",)]
        calls = [*calls, *whole(n), *behind, ("text",), ("state",)]
        self.assertEqual(slow_answers(calls), ask(*calls))

    def test_the_least_town(self):
        for clues in itertools.product(range(2), repeat=4):
            for tower in range(2):
                self.goes_as_the_slow_town(written(1, [tower], clues))
        calls = [
            ("line", 2, 0), ("hint",), ("spare",), ("views",), ("ask",), ("solve",), ("views",), ("ask",), ("spare",),
            ("fill", 0), ("fill", 1), ("turn",), ("mirror",), ("text",), ("clear",), ("state",)]
        expected = [
            [1, 1], [0, 1], [0], [-12], [-12], [1], [4, 1, 1, 1, 1], [4], [4, 0, 1, 2, 3], [0], [-2], [0], [0],
            text_of(begin(" 1 ", "111", " 1 ")), [1], [0, 1, 4, 6, 0]]
        self.assertEqual(expected, ask(empty(1), *calls)[1:])

    def test_a_clue_of_n(self):
        for n in range(1, 5):
            for side, i in itertools.product(range(4), range(n)):
                told = ("tell", side, i, n)
                self.assertEqual([1] + [1 << k for k in range(n)], last(empty(n), told, ("line", side, i)))
                built = last(empty(n), told, ("solve",), ("text",))
                cells = [0] * (n * n)
                for height, cell in enumerate(line_of(range(n * n), n, side, i), 1):
                    cells[cell] = height
                if n > 2:
                    clues = [n if place == side * n + i else 0 for place in range(4 * n)]
                    self.assertEqual(text_of(written(n, cells, clues)), built)
                self.goes_as_the_slow_town(empty(n), told)

    def test_a_clue_of_1(self):
        for n in range(1, 5):
            for side, i in itertools.product(range(4), range(n)):
                cell = line_of(range(n * n), n, side, i)[0]
                found = ask(empty(n), ("tell", side, i, 1), ("hint",), ("line", side, i))
                self.assertEqual(1 << (n - 1), found[3][1])
                # Of a town of 2 it tells the whole line, and a column is told from above down.
                if n > 2:
                    self.assertEqual([cell, n], found[2])
                self.goes_as_the_slow_town(empty(n), ("tell", side, i, 1))

    def test_both_clues_of_a_line(self):
        for n in range(1, 5):
            for near, far in itertools.product(range(1, n + 1), repeat=2):
                self.goes_as_the_slow_town(empty(n), ("tell", 3, n - 1, near), ("tell", 1, n - 1, far))
                self.goes_as_the_slow_town(empty(n), ("tell", 0, 0, near), ("tell", 2, 0, far))

    def test_a_tower_that_is_built_against_all_ways(self):
        start = begin(" .. ", "1...", "....", " .. ")
        calls = [
            ("build", 0, 1), ("count",), ("line", 3, 0), ("line", 0, 0), ("hint",), ("solve",), ("fill", 0), ("spare",),
            ("back",), ("spare",), ("hint",)]
        expected = [[1], [0], [-33], [1, 1, 2], [-33], [-33], [-2], [-33], [0], [0], [0, 2]]
        self.assertEqual(expected, ask(start, *calls)[1:])
        self.goes_as_the_slow_town(start, ("build", 0, 1))

    def test_two_like_towers_in_a_row(self):
        start = begin(" ... ", ".2.2.", ".....", ".....", " ... ")
        calls = [
            ("line", 3, 0), ("line", 0, 0), ("line", 3, 1), ("hint",), ("solve",), ("fill", 0), ("spare",), ("done",)]
        expected = [[-33], [2, 2, 5, 5], [6, 7, 7, 7], [-33], [-33], [-2], [-33], [0]]
        self.assertEqual(expected, ask(start, *calls)[1:])
        self.goes_as_the_slow_town(start)
        self.goes_as_the_slow_town(begin(" .... ", ".1224.", ".2143.", ".3412.", ".4321.", " .... "))

    def test_no_way_though_each_line_has_some(self):
        for start in (
                begin(" .. ", "1...", "1...", " .. "), begin(" ... ", ".12..", "...3.", ".....", " ... "),
                begin(" .... ", "1.....", "......", "......", "1.....", " .... "),
                begin(" ... ", ".1...", "..1..", "...2.", " ... ")):
            n = start[1]
            found = ask(start, *[("line", side, i) for side in range(4) for i in range(n)])
            for answer in found[1:]:
                self.assertGreater(answer[0], 0)
            self.assertNotEqual([-33], last(start, ("hint",)))
            self.assertEqual([[0], [-33], [-2]], ask(start, ("count",), ("spare",), ("fill", 0))[1:])
            self.goes_as_the_slow_town(start)

    def test_clues_that_can_be_spared_each_but_not_both(self):
        start = begin(" 1.. ", "1....", ".....", ".....", " ... ")
        calls = [("spare",), ("tell", 3, 0, 0), ("spare",), ("count",), ("tell", 0, 0, 0), ("count",)]
        self.assertEqual([[2, 0, 9], [1], [0], [4], [1], [12]], ask(start, *calls)[1:])
        self.goes_as_the_slow_town(start)
        self.goes_as_the_slow_town(begin(" 4... ", "4.....", "......", "......", "......", " .... "))


if __name__ == "__main__":
    unittest.main()
