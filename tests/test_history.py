"""Point 9: back, again and state; and what of them start and the changes say."""

import unittest

from tests.helper import EACH_LOOK, Unchanged, ask, begin, empty, last, text_of, whole

START = begin(" 3.. ", ".1...", "...1.", "....2", " ... ")
FULL = begin(" 2.. ", ".132.", ".321.", ".213.", " ... ")

# A start, and a change that isn't refused there: each of the nine, and some that leave the town as it is.
EACH_CHANGE = [
    (START, ("build", 8, 2)), (START, ("tear", 5)), (START, ("tell", 0, 0, 2)), (START, ("tell", 3, 2, 1)),
    (START, ("solve",)), (START, ("fill", 0)), (START, ("clear",)), (FULL, ("ask",)), (START, ("turn",)),
    (START, ("mirror",)), (FULL, ("turn",)), (FULL, ("clear",)), (FULL, ("tear", 0)), (FULL, ("fill", 0)),
    (START, ("tell", 0, 0, 3)), (empty(3), ("clear",)), (empty(1), ("turn",)), (empty(1), ("solve",)),
    (empty(4), ("fill", 575)), (empty(4), ("mirror",))]

# By a town with a change to take back and one to do again, calls that are refused there.
REFUSED = [
    ("build", 0, 1), ("build", 9, 1), ("build", 8, 0), ("build", 8, 4), ("tear", 8), ("tear", 9), ("tell", 4, 0, 1),
    ("tell", 0, 3, 1), ("tell", 0, 0, 4), ("fill", 50), ("ask",), ("start", 0, ""), ("start", 5, ""), ("start", 3, "x"),
    ("start", 2, START[2])]


def towns_of(start, changes):
    """The text behind the start, and behind each of these changes."""
    calls = [start, ("text",)]
    for change in changes:
        calls += [change, ("text",)]
    return ask(*calls)[1::2]


def many(number):
    """So many changes (64 at most) in a town of 4 by 4, behind each of which it's another one."""
    builds = [("build", cell, cell % 4 + 1) for cell in range(16)]
    tells = [("tell", side, i, clue) for clue in range(1, 4) for i in range(4) for side in range(4)]
    return (builds + tells)[:number]


class EachChange(unittest.TestCase):

    def test_is_taken_back_and_done_again(self):
        for start, change in EACH_CHANGE:
            n = start[1]
            seen = [call for call in whole(n) if call != ("state",)]
            before = ask(start, *seen)[1:]
            after = ask(start, change, *seen)[2:]
            found = ask(start, change, ("back",), *seen)
            self.assertGreaterEqual(found[1][0], 0, change)
            self.assertEqual([[0]] + before, found[2:], change)
            found = ask(start, change, ("back",), ("again",), *seen)
            self.assertEqual([[0]] + after, found[3:], change)

    def test_counts_as_one(self):
        for start, change in EACH_CHANGE:
            calls = [change, ("state",), ("back",), ("state",), ("again",), ("state",), ("back",), ("state",)]
            found = ask(start, *calls)
            self.assertEqual([[1, 0], [0, 1], [1, 0], [0, 1]], [answer[3:] for answer in found[2::2]], change)
            self.assertEqual([[0], [0], [0]], found[3::2], change)

    def test_all_nine_are_here(self):
        names = {change[0] for start, change in EACH_CHANGE}
        self.assertEqual({"build", "tear", "tell", "solve", "fill", "clear", "ask", "turn", "mirror"}, names)

    def test_one_behind_another(self):
        changes = [
            ("build", 8, 3), ("tell", 1, 1, 2), ("turn",), ("tear", 2), ("mirror",), ("clear",), ("solve",),
            ("fill", 0), ("ask",), ("tell", 2, 2, 0)]
        start = START
        towns = towns_of(start, changes)
        self.assertTrue(all(answer[0] >= 0 for answer in ask(start, *changes)))
        size = len(changes)
        calls = []
        for k in range(size):
            calls += [("back",), ("text",), ("state",)]
        for k in range(size):
            calls += [("again",), ("text",), ("state",)]
        found = ask(start, *changes, *calls)[size + 1:]
        places = list(range(size - 1, -1, -1)) + list(range(1, size + 1))
        for k, place in enumerate(places):
            self.assertEqual([place] if k < size else [size - place], found[3 * k])
            self.assertEqual(towns[place], found[3 * k + 1])
            self.assertEqual([place, size - place], found[3 * k + 2][3:])


class Bounds(Unchanged):

    def test_none_behind_a_start(self):
        for n in range(1, 5):
            self.assertEqual([[-2], [-2], [0, n, 0, 0, 0]], ask(empty(n), ("back",), ("again",), ("state",))[1:])

    def test_a_refused_back_or_again_changes_nothing(self):
        found = ask(START, ("clear",), ("again",), ("state",), ("back",), ("back",), ("state",), ("again",), ("text",))
        expected = [[2], [-2], [0, 3, 2, 1, 0], [0], [-2], [2, 3, 2, 0, 1], [0]]
        self.assertEqual(expected, found[1:8])
        self.assertEqual(last(START, ("clear",), ("text",)), found[8])

    def test_twenty(self):
        for number in (1, 2, 19, 20):
            towns = towns_of(empty(4), many(number))
            self.assertEqual(number + 1, len({tuple(town) for town in towns}))
            found = ask(empty(4), *many(number), *[("back",)] * (number + 1), ("text",), ("state",))[number + 1:]
            self.assertEqual([[k] for k in range(number - 1, -1, -1)] + [[-2], towns[0]], found[:-1])
            self.assertEqual([0, number], found[-1][3:])

    def test_more_than_twenty(self):
        for number in (21, 22, 25, 40, 60):
            towns = towns_of(empty(4), many(number))
            self.assertEqual(number + 1, len({tuple(town) for town in towns}))
            calls = [("state",)]
            for k in range(21):
                calls += [("back",), ("text",)]
            calls += [("state",)]
            for k in range(21):
                calls += [("again",), ("text",)]
            calls += [("state",)]
            found = ask(empty(4), *many(number), *calls)[number + 1:]
            self.assertEqual([20, 0], found[0][3:])
            self.assertEqual([[k] for k in range(19, -1, -1)] + [[-2]], found[1:43:2])
            self.assertEqual(towns[-2:-22:-1] + [towns[-21]], found[2:43:2])
            self.assertEqual([0, 20], found[43][3:])
            self.assertEqual([[k] for k in range(19, -1, -1)] + [[-2]], found[44:86:2])
            self.assertEqual(towns[-20:] + [towns[-1]], found[45:86:2])
            self.assertEqual([20, 0], found[86][3:])

    def test_twenty_back_and_again_and_one_more_change(self):
        start = empty(4)
        calls = many(20) + [("back",)] * 20 + [("again",)] * 20
        found = ask(start, *calls, ("turn",), ("state",), *[("back",)] * 21, ("text",))
        self.assertEqual([20, 0], found[62][3:])
        self.assertEqual([[k] for k in range(19, -1, -1)] + [[-2]], found[63:84])
        self.assertEqual(towns_of(start, many(1))[1], found[84])

    def test_how_many_behind_again(self):
        calls = many(25) + [("back",)] * 7 + [("again",), ("state",), ("again",), ("state",), ("back",), ("state",)]
        found = ask(empty(4), *calls)[26:]
        self.assertEqual([[19], [18], [17], [16], [15], [14], [13]], found[:7])
        self.assertEqual([[6], [14, 6], [5], [15, 5], [14], [14, 6]], [
            answer if len(answer) == 1 else answer[3:] for answer in found[7:]])

    def test_a_change_behind_some_that_were_taken_back(self):
        calls = many(25) + [("back",)] * 5 + [("mirror",), ("mirror",), ("mirror",), ("state",)]
        self.assertEqual([18, 0], last(empty(4), *calls)[3:])
        towns = towns_of(empty(4), many(25))
        self.assertEqual(towns[5], last(empty(4), *calls, *[("back",)] * 18, ("text",)))
        self.assertEqual([-2], last(empty(4), *calls, *[("back",)] * 19))


class DoneAgain(unittest.TestCase):

    AHEAD = [START, ("tell", 0, 1, 2), ("build", 8, 2), ("tell", 3, 1, 1), ("back",), ("back",)]

    def test_till_another_change_is_made(self):
        for change in (
                ("build", 8, 3), ("tear", 0), ("tell", 0, 1, 2), ("fill", 0), ("clear",), ("turn",), ("mirror",),
                ("solve",)):
            found = ask(*self.AHEAD, ("state",), change, ("state",), ("again",), ("state",))
            self.assertEqual([1, 2], found[6][3:])
            self.assertGreaterEqual(found[7][0], 0, change)
            self.assertEqual([2, 0], found[8][3:], change)
            self.assertEqual([-2], found[9], change)
            self.assertEqual(found[8], found[10], change)
        found = ask(FULL, ("turn",), ("back",), ("ask",), ("again",), ("state",))
        self.assertEqual([[0], [0], [12], [-2], [9, 3, 12, 1, 0]], found[1:])

    def test_the_change_alone_is_taken_back_then(self):
        found = ask(*self.AHEAD, ("clear",), ("back",), ("text",), ("state",), ("again",), ("text",), ("again",))
        self.assertEqual([1], found[7])
        self.assertEqual(last(*self.AHEAD, ("text",)), found[8])
        self.assertEqual([1, 1], found[9][3:])
        self.assertEqual([[0], last(*self.AHEAD, ("clear",), ("text",)), [-2]], found[10:])

    def test_refused_changes_do_not_end_it(self):
        for refused in REFUSED:
            found = ask(*self.AHEAD, refused, ("state",), ("text",), ("again",), ("again",), ("text",))
            self.assertLess(found[6][0], 0, refused)
            self.assertEqual(ask(*self.AHEAD, ("state",), ("text",), ("again",), ("again",), ("text",))[6:], found[7:])

    def test_hint_and_solve_refused_do_not_end_it(self):
        for start, number in ((empty(2), -6), (begin(" .. ", "1..1", "....", " .. "), -33)):
            ahead = [start, ("turn",), ("turn",), ("back",)]
            found = ask(*ahead, ("solve",), ("hint",), ("state",), ("again",), ("state",))
            self.assertEqual([[number], [number]], found[4:6])
            self.assertEqual([[1, 1], [0], [2, 0]], [answer[-2:] for answer in found[6:]])

    def test_calls_that_look_do_not_end_it(self):
        for look in EACH_LOOK:
            found = ask(*self.AHEAD, look, ("state",), ("text",), ("again",), ("again",), ("text",))
            self.assertEqual(ask(*self.AHEAD, ("state",), ("text",), ("again",), ("again",), ("text",))[6:], found[7:])
        found = ask(*self.AHEAD, *EACH_LOOK, ("again",), ("again",))
        self.assertEqual([[1], [0]], found[-2:])


class Start(unittest.TestCase):

    AHEAD = DoneAgain.AHEAD

    def test_answered_it_leaves_none_of_either(self):
        for start in (START, FULL, empty(1), empty(4)):
            found = ask(*self.AHEAD, start, ("state",), ("back",), ("again",), ("text",))
            self.assertEqual([0, 0], found[7][3:])
            self.assertEqual([[-2], [-2], text_of(start)], found[8:])

    def test_refused_it_leaves_both(self):
        for refused in (("start", 0, START[2]), ("start", 5, ""), ("start", 3, ""), ("start", 4, START[2])):
            found = ask(*self.AHEAD, refused, ("state",), ("again",), ("again",), ("back",), ("back",), ("back",))
            self.assertEqual([1, 2], found[7][3:])
            self.assertEqual([[1], [0], [2], [1], [0]], found[8:])

    def test_is_no_change(self):
        self.assertEqual([0, 0], last(START, START, FULL, ("state",))[3:])

    def test_changes_of_another_size_are_gone(self):
        found = ask(empty(4), ("build", 15, 4), ("back",), empty(2), ("again",), ("build", 3, 2), ("back",), ("text",))
        self.assertEqual([[-2], [1], [0], text_of(empty(2))], found[4:])


class State(unittest.TestCase):

    def test_behind_a_start(self):
        self.assertEqual([2, 3, 2, 0, 0], last(START, ("state",)))
        self.assertEqual([9, 3, 1, 0, 0], last(FULL, ("state",)))
        self.assertEqual([1, 1, 4, 0, 0], last(begin(" 1 ", "111", " 1 "), ("state",)))
        self.assertEqual([0, 4, 16, 0, 0], last(begin(" 1234 ", *["4....1"] * 4, " 4321 "), ("state",)))

    def test_as_it_goes(self):
        calls = [
            ("build", 8, 2), ("tell", 1, 0, 3), ("tell", 0, 0, 0), ("tear", 0), ("back",), ("back",), ("again",),
            ("clear",), ("fill", 0)]
        states = [
            [3, 3, 2, 1, 0], [3, 3, 3, 2, 0], [3, 3, 2, 3, 0], [2, 3, 2, 4, 0], [3, 3, 2, 3, 1], [3, 3, 3, 2, 2],
            [3, 3, 2, 3, 1], [0, 3, 2, 4, 0], [9, 3, 2, 5, 0]]
        for k, state in enumerate(states):
            self.assertEqual(state, last(START, *calls[:k + 1], ("state",)), calls[k])


if __name__ == "__main__":
    unittest.main()
