"""Point 1: start, its texts, and -61 before it."""

import unittest

from tests.helper import BIG, EACH_CALL, ask, begin, empty, last, whole

TWO = " 12 \n1.22\n21.1\n .2 \n"
ONE = " . \n...\n . \n"


class Answered(unittest.TestCase):

    def test_answers_how_many_towers_stand(self):
        self.assertEqual([[0]], ask(empty(1)))
        self.assertEqual([[1]], ask(begin(" . ", ".1.", " . ")))
        self.assertEqual([[2]], ask(("start", 2, TWO)))
        self.assertEqual([[3]], ask(begin(" ... ", "..1..", "..3..", "...2.", " ... ")))
        self.assertEqual([[16]], ask(begin(" .... ", ".1234.", ".2143.", ".3412.", ".4321.", " .... ")))

    def test_every_size_without_towers(self):
        for n in range(1, 5):
            self.assertEqual([[0], [0, (1 << n) - 1]], ask(empty(n), ("at", 0)))

    def test_towers_come_row_by_row(self):
        start = begin(" ... ", ".12..", ".3.1.", "..23.", " ... ")
        found = ask(start, *[("at", cell) for cell in range(9)])
        self.assertEqual([1, 2, 0, 3, 0, 1, 0, 2, 3], [answer[0] for answer in found[1:]])

    def test_clues_come_to_their_sides_and_lines(self):
        start = begin(" 123 ", "1...3", "2...2", "3...1", " .31 ")
        found = ask(start, *[("clue", side, i) for side in range(4) for i in range(3)])
        told = [1, 2, 3, 3, 2, 1, 0, 3, 1, 1, 2, 3]
        self.assertEqual([[number] for number in told], found[1:])

    def test_digits_up_to_n_are_signs(self):
        for n in range(1, 5):
            frame = " " + str(n) * n + " "
            start = begin(frame, *[str(n) * (n + 2)] * n, frame)
            self.assertEqual([[n * n], [n], [n]], [answer[:1] for answer in ask(start, ("at", 0), ("clue", 1, 0))])

    def test_with_and_without_the_last_byte_10(self):
        for n, text in ((1, ONE), (2, TWO)):
            with_it = ask(("start", n, text), *whole(n))
            self.assertEqual(with_it, ask(("start", n, text[:-1]), *whole(n)))
            self.assertGreaterEqual(with_it[0][0], 0)

    def test_whatever_stands_there(self):
        like = begin(" .. ", ".11.", ".11.", " .. ")
        self.assertEqual([[4], [4, 0], [0], [0]], ask(like, ("clash",), ("done",), ("count",)))
        no_way = begin(" .. ", "2..2", "....", " .. ")
        self.assertEqual([[0], [0]], ask(no_way, ("count",)))
        wrong = begin(" 1. ", ".12.", ".21.", " .. ")
        self.assertEqual([[4], [0, 1], [0], [0]], ask(wrong, ("clash",), ("done",), ("count",)))


class Refused(unittest.TestCase):

    def refuses(self, n, text, number=-71):
        self.assertEqual([number], last(("start", n, text)), (n, text))

    def test_n_is_not_1_to_4(self):
        for n in (0, 5, 6, 100, BIG):
            self.refuses(n, TWO, -22)
            self.refuses(n, "", -22)
        self.refuses(0, "  \n  \n", -22)
        self.refuses(5, " ..... \n" + ".......\n" * 5 + " ..... \n", -22)

    def test_empty(self):
        for n in range(1, 5):
            for text in ("", "\n", "\n" * (n + 2), "\n" * 100):
                self.refuses(n, text)

    def test_the_size_of_another(self):
        for n in range(1, 5):
            for other in range(1, 5):
                text = empty(other)[2]
                self.assertEqual([0] if n == other else [-71], last(("start", n, text)))

    def test_lines_too_many_or_too_few(self):
        for n in range(1, 5):
            lines = empty(n)[2].splitlines(keepends=True)
            self.refuses(n, "".join(lines[:-1]))
            self.refuses(n, "".join(lines[1:]))
            self.refuses(n, "".join(lines[:1] + lines[2:]))
            self.refuses(n, "".join(lines + lines[-1:]))
            self.refuses(n, "".join(lines[:2] + lines[1:]))
            self.refuses(n, "".join(lines) + " ")
            self.refuses(n, "".join(lines) + ".")

    def test_an_empty_line_is_one_but_for_the_last(self):
        for n in range(1, 5):
            text = empty(n)[2]
            self.refuses(n, text + "\n")
            self.refuses(n, text + "\n\n")
            self.refuses(n, "\n" + text)
            self.refuses(n, text.replace("\n", "\n\n", 1))

    def test_lines_too_long_or_too_short(self):
        for n in range(1, 5):
            lines = empty(n)[2].splitlines()
            for k in range(n + 2):
                for line in (lines[k] + ".", lines[k] + " ", "." + lines[k], " " + lines[k], lines[k][1:], lines[k][:-1]):
                    self.refuses(n, "\n".join(lines[:k] + [line] + lines[k + 1:]) + "\n")

    def test_as_many_bytes_in_other_lines(self):
        self.refuses(2, " .. ....\n\n....\n .. ")
        self.refuses(2, " .. \n...\n.....\n .. \n")
        self.refuses(2, " .. ........ .. ")

    def test_bytes_10_and_13_behind_a_line(self):
        self.refuses(2, TWO.replace("\n", "\r\n"))
        self.refuses(2, TWO.replace("\n", "\r"))

    def test_each_byte_in_each_place(self):
        for n in range(1, 5):
            text = list(empty(n)[2].encode("ascii"))
            signs = [46] + [48 + k for k in range(1, n + 1)]
            for place, byte in enumerate(text):
                if byte == 10:
                    continue
                due = [32] if byte == 32 else signs
                for other in range(256):
                    answer = last(("start", n, text[:place] + [other] + text[place + 1:]))
                    self.assertEqual(other in due, answer[0] >= 0, (n, place, other))
                    if other not in due:
                        self.assertEqual([-71], answer)

    def test_no_blank_in_a_corner(self):
        for n in range(1, 5):
            lines = empty(n)[2].splitlines()
            for k in (0, n + 1):
                for line in ("." + lines[k][1:], lines[k][:-1] + ".", "1" + lines[k][1:], lines[k][:-1] + "1"):
                    self.refuses(n, "\n".join(lines[:k] + [line] + lines[k + 1:]))

    def test_a_hundred_bytes(self):
        for n in range(1, 5):
            for byte in (0, 10, 32, 46, 49, 255):
                self.refuses(n, [byte] * 100)


class NotBegun(unittest.TestCase):

    def test_every_call_before_a_start(self):
        for call in EACH_CALL:
            self.assertEqual([[-61]], ask(call), call)
        self.assertEqual([[-61]] * len(EACH_CALL), ask(*EACH_CALL))

    def test_61_is_told_before_22(self):
        calls = [
            ("build", BIG, BIG), ("build", 0, 0), ("tear", BIG), ("tell", BIG, BIG, BIG), ("at", BIG), ("seen", BIG, 0),
            ("clue", 0, BIG), ("nth", BIG), ("sure", BIG), ("could", BIG), ("line", BIG, BIG), ("line", 0, BIG),
            ("fill", BIG)]
        self.assertEqual([[-61]] * len(calls), ask(*calls))

    def test_behind_a_start_that_was_refused(self):
        for refused, number in ((("start", 0, TWO), -22), (("start", 5, ""), -22), (("start", 2, ""), -71)):
            found = ask(refused, *EACH_CALL)
            self.assertEqual([[number]] + [[-61]] * len(EACH_CALL), found)

    def test_a_start_behind_refused_ones(self):
        found = ask(("at", 0), ("start", 3, TWO), ("at", 0), ("start", 2, TWO), ("at", 0))
        self.assertEqual([[-61], [-71], [-61], [2], [0, 0]], found)


class Again(unittest.TestCase):

    def test_a_second_start_takes_the_place_of_the_first(self):
        for n in range(1, 5):
            alone = ask(empty(n), *whole(n))
            behind = ask(("start", 2, TWO), ("tear", 1), ("build", 3, 2), ("tell", 0, 0, 2), empty(n), *whole(n))
            self.assertEqual(alone, behind[4:])

    def test_a_larger_and_a_smaller_town(self):
        found = ask(empty(4), ("at", 15), ("start", 1, ONE), ("at", 0), ("at", 1), empty(3), ("at", 8), ("at", 9))
        self.assertEqual([[0], [0, 15], [0], [0, 1], [-22], [0], [0, 7], [-22]], found)

    def test_a_refused_start_changes_nothing(self):
        alone = ask(("start", 2, TWO), ("tell", 2, 0, 1), *whole(2))
        for refused in (("start", 0, TWO), ("start", BIG, ""), ("start", 2, "x"), ("start", 1, TWO), ("start", 4, ONE)):
            found = ask(("start", 2, TWO), ("tell", 2, 0, 1), refused, *whole(2))
            self.assertLess(found[2][0], 0)
            self.assertEqual(alone, found[:2] + found[3:])


if __name__ == "__main__":
    unittest.main()
