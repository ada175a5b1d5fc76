"""The interface: what is handed in and given back, and that nothing is kept, printed, read or imported."""

import builtins
import contextlib
import io
import random
import sys
import unittest
from unittest import mock

from townclues.town import answers

from tests.helper import (
    BIG, EACH_CALL, ask, begin, decode, empty, encode, last, latin_squares, slow_answers, whole, written)

MIXED = [
    ("count",), begin(" 12 ", "1.2.", "....", " .. "), ("build", 0, 1), ("build", 0, 2), ("nth", 0), ("known",),
    ("start", 9, ""), ("tear", 1), ("tell", 0, 0, 0), ("at", 1), ("clash",), ("count",), ("nth", 1), ("nth", 2),
    ("line", 3, 0), ("hint",), ("solve",), ("state",), ("back",), ("clear",), ("tell", 0, 1, 0), ("tell", 3, 0, 0),
    ("fill", 1), ("views",), ("ask",), ("spare",), ("turn",), ("text",), ("mirror",), ("back",), ("back",), ("again",),
    ("state",), ("text",), ("fill", 7), ("line", 4, 0)]


class Form(unittest.TestCase):

    def test_by_the_documents_numbers(self):
        text = [32, 46, 46, 32, 10, 46, 46, 46, 46, 10, 46, 46, 46, 46, 10, 32, 46, 46, 32]
        calls = [
            9, 0, 2, 19] + text + [1, 0, 2, 2, 0, 3, 3, 0, 1, 4, 1, 5, 0, 0, 6, 3, 0, 7, 8, 9, 10, 0, 11, 1, 12, 1, 13]
        expected = [
            1, -61, 1, 0, 1, 1, 1, 2, 1, 0, 2, 0, 3, 1, 0, 1, 1, 2, 0, 0, 1, 0, 1, 1, 5, 4, 2, 1, 1, 2, 1, 1, 1, 1,
            5, 4, 0, 1, 2, 3]
        self.assertEqual(expected, answers(calls))

    def test_by_the_documents_numbers_the_others(self):
        text = [32, 46, 46, 32, 10, 49, 46, 46, 46, 10, 46, 46, 46, 46, 10, 32, 46, 46, 32]
        calls = [
            14, 0, 0, 17, 0, 27, 0, 2, 19] + text + [
            14, 3, 0, 15, 16, 27, 25, 26, 19, 18, 21, 22, 23, 24, 20, 17, 1, 17, 0, 25, 25, 26, 27, 14, 4, 0]
        text = [32, 49, 50, 32, 10, 49, 50, 49, 50, 10, 50, 49, 50, 49, 10, 32, 50, 49, 32, 10]
        expected = [1, -61] * 3 + [
            1, 0, 3, 1, 2, 1, 2, 0, 2, 1, 4, 5, 4, 2, 1, 1, 0, 1, 0, 1, 0, 9, 8, 1, 2, 2, 1, 2, 1, 1, 2, 2, 1, 6,
            1, 8, 1, 0, 1, 0, 21, 20] + text + [1, 4, 1, -2, 1, 4, 1, 5, 1, 4, 1, 1, 5, 0, 2, 8, 5, 1, 1, -22]
        self.assertEqual(expected, answers(calls))

    def test_how_many_numbers_each_call_answers(self):
        full = begin(" 4... ", ".1234.", ".2143.", ".3412.", ".4321.", " .... ")
        sizes = {
            "at": 2, "clash": 2, "hint": 2, "state": 5, "line": 5, "nth": 17, "known": 17, "spare": 2, "views": 17,
            "text": 43}
        for call in EACH_CALL:
            ahead = {
                "build": [("tear", 0)], "hint": [("tear", 0)], "solve": [("tear", 0)], "back": [("turn",)],
                "again": [("turn",), ("back",)]}.get(call[0], [])
            answer = last(full, *ahead, call)
            self.assertEqual(sizes.get(call[0], 1), len(answer), call)
            self.assertGreaterEqual(answer[0], 0, call)

    def test_a_refusal_is_its_number_alone(self):
        calls = [empty(2), ("at", 4), ("nth", 2), ("tell", 3, 0, 1), ("tell", 1, 0, 1), ("known",), ("tear", 0)]
        self.assertEqual([1, 0, 1, -22, 1, -2, 1, 0, 1, 0, 1, -33, 1, -2], answers(encode(calls)))

    def test_an_empty_row_has_its_count(self):
        self.assertEqual([1, 0, 1, 0], answers(encode([empty(2), ("known",)])))

    def test_whole_numbers_in_a_list(self):
        found = answers(encode(MIXED))
        self.assertIs(list, type(found))
        for number in found:
            self.assertIs(int, type(number))
        for call in EACH_CALL:
            for number in answers(encode([empty(1), call])):
                self.assertIs(int, type(number))

    def test_one_call(self):
        for call in EACH_CALL:
            self.assertEqual([1, -61], answers(encode([call])))
        self.assertEqual([1, -22], answers([0, 0, 0]))
        self.assertEqual([1, -71], answers([0, 1, 0]))

    def test_two_hundred_calls(self):
        for call in (
                ("count",), ("nth", 575), ("known",), ("could", 15), ("clash",), ("line", 0, 3), ("hint",), ("spare",),
                ("text",), ("state",), ("turn",), ("mirror",), ("solve",), ("views",), ("clear",)):
            found = ask(empty(4), *[call] * 199)
            self.assertEqual(200, len(found))
            self.assertEqual([found[1]] * 199, found[1:])

    def test_two_hundred_changes(self):
        found = ask(empty(4), *[("turn",)] * 150, *[("back",)] * 24, *[("again",)] * 24, ("state",))
        self.assertEqual(200, len(found))
        twenty = [[k] for k in range(19, -1, -1)] + [[-2]] * 4
        self.assertEqual([[0]] * 151 + twenty * 2 + [[0, 4, 0, 20, 0]], found)

    def test_two_hundred_calls_of_all_sorts(self):
        full = written(4, *latin_squares(4)[300])
        for start in (full, written(4, [0] * 16, latin_squares(4)[300][1]), empty(4)):
            calls = ([start] + EACH_CALL * 8)[:200]
            self.assertEqual(slow_answers(calls), ask(*calls))

    def test_the_longest_starts(self):
        found = ask(*[("start", 4, [255] * 100)] * 199, empty(4))
        self.assertEqual([[-71]] * 199 + [[0]], found)


class NothingIsKept(unittest.TestCase):

    def test_what_is_handed_in_is_as_it_was(self):
        for calls in (MIXED, [empty(3), *whole(3)], EACH_CALL):
            numbers = encode(calls)
            before = list(numbers)
            answers(numbers)
            self.assertEqual(before, numbers)

    def test_not_for_a_while_either(self):

        class Watched(list):

            def refuse(self, *given):
                raise AssertionError("the list that was handed in was changed")

            append = extend = insert = pop = remove = clear = sort = reverse = refuse
            __setitem__ = __delitem__ = __iadd__ = __imul__ = refuse

        self.assertEqual(answers(encode(MIXED)), answers(Watched(encode(MIXED))))

    def test_the_same_again(self):
        numbers = encode(MIXED)
        first = answers(numbers)
        copied = list(first)
        self.assertEqual(copied, answers(numbers))
        answers(encode([begin(" .. ", ".12.", ".21.", " .. "), ("tear", 0)]))
        self.assertEqual(copied, answers(numbers))
        first.clear()
        self.assertEqual(copied, answers(numbers))

    def test_a_town_is_not_begun_at_a_lists_beginning(self):
        answers(encode([empty(4)]))
        self.assertEqual([1, -61], answers([9]))

    def test_nothing_is_printed_read_or_imported(self):
        modules = set(sys.modules)
        out, err = io.StringIO(), io.StringIO()
        refused = mock.Mock(side_effect=AssertionError("not asked for"))
        with contextlib.redirect_stdout(out), contextlib.redirect_stderr(err), mock.patch.object(sys, "stdin", None):
            with mock.patch.object(builtins, "open", refused), mock.patch.object(builtins, "__import__", refused):
                answers(encode(MIXED))
        self.assertEqual(("", ""), (out.getvalue(), err.getvalue()))
        self.assertEqual(modules, set(sys.modules))


class AgainstASlowTown(unittest.TestCase):
    """Many calls, answered here and by a second town that walks through all Latin squares."""

    def number(self, chance, below):
        return chance.choice([chance.randrange(below)] * 12 + [below, below + 1, BIG])

    def call(self, chance, n):
        often = ["build"] * 5 + ["tear"] * 3 + ["tell"] * 5 + ["back"] * 3 + ["again"] * 2 + ["state", "text", "hint"]
        name = chance.choice(often + [call[0] for call in EACH_CALL])
        if name == "build":
            return (name, self.number(chance, n * n), chance.choice([0, n + 1, BIG] + list(range(1, n + 1)) * 4))
        if name == "tell":
            return (name, self.number(chance, 4), self.number(chance, n), self.number(chance, n + 1))
        if name in ("seen", "clue", "line"):
            return (name, self.number(chance, 4), self.number(chance, n))
        if name in ("tear", "at", "sure", "could"):
            return (name, self.number(chance, n * n))
        if name in ("nth", "fill"):
            return (name, self.number(chance, chance.choice([1, 3, 20])))
        return (name,)

    def start(self, chance, n):
        square, views = chance.choice(latin_squares(n))
        many = chance.randrange(1, 11)
        cells = [height if chance.randrange(10) >= many else 0 for height in square]
        many = chance.randrange(1, 11)
        clues = [view if chance.randrange(10) >= many else 0 for view in views]
        name, n, text = written(n, cells, clues)
        if chance.randrange(3) == 0:
            place = chance.randrange(len(text))
            text = text[:place] + chance.choice(" .01234\n") + text[place + chance.randrange(2):]
        return (name, n, text)

    def test_many_calls(self):
        for seed in range(120):
            chance = random.Random(seed)
            n = chance.choice([1, 2, 3, 3, 4, 4])
            calls = []
            for k in range(150):
                if k in (0, 50, 52) or chance.randrange(60) == 0:
                    calls.append(self.start(chance, n))
                calls.append(self.call(chance, n))
            calls = calls[:200]
            found = decode(answers(encode(calls)))
            for place, expected in enumerate(slow_answers(calls)):
                self.assertEqual(expected, found[place], (seed, place, calls[place]))
            self.assertEqual(len(calls), len(found))


if __name__ == "__main__":
    unittest.main()
