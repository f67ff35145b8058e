"""Point 10: rows written as lines, and lines read to rows."""

import itertools
import unittest

from helper import EXAMPLE, Draws, broad, deep, marked_rows, small_rows
from treetrim.errors import NoRow, TreeError
from treetrim.notes import read, shown

# Every sign from the blank to ~ but the per cent sign.
SIGNS = [chr(number) for number in range(32, 127) if number != 37]


def written(row):
    """The line of a row that is not too deep for recursion, as point 10 tells it."""
    return " ".join(tree[0] + (f"({written(tree[1:])})" if len(tree) > 1 else "") for tree in row)


def good_lines(length, known):
    """Every line of so many signs with the letter a alone, the empty one too."""
    if length not in known:
        found = [""] if length == 0 else []
        for mark in range(1, length + 1):
            firsts = [(mark, "a" * mark)]
            for inner in range(1, length - mark - 1):
                firsts += [(mark + inner + 2, "a" * mark + f"({line})") for line in good_lines(inner, known)]
            for used, first in firsts:
                if used == length:
                    found.append(first)
                elif used + 1 < length:
                    found += [first + " " + line for line in good_lines(length - used - 1, known)]
        known[length] = sorted(set(found))
    return known[length]


class Pairs(unittest.TestCase):
    def check(self, row, line):
        with self.subTest(line=line):
            self.assertEqual(shown(row), line)
            self.assertIs(type(shown(row)), str)
            answer = read(line)
            self.assertEqual(answer, row)
            self.check_kinds(answer)

    def check_kinds(self, row):
        self.assertIs(type(row), list)
        waiting = list(row)
        while waiting:
            tree = waiting.pop()
            self.assertIs(type(tree), tuple)
            self.assertIs(type(tree[0]), str)
            waiting.extend(tree[1:])

    def test_the_empty_row(self):
        self.check([], "")

    def test_single_knots(self):
        for letter in "abcdefghijklmnopqrstuvwxyz":
            self.check([(letter,)], letter)
        self.check([("abc",)], "abc")
        self.check([("z" * 28,)], "z" * 28)

    def test_a_mark_in_a_line_may_be_longer(self):
        for length in (29, 60, 300):
            self.check([("az" * length, ("q" * length,))], "az" * length + "(" + "q" * length + ")")

    def test_the_lines_of_the_document(self):
        self.check([("a", ("b",), ("c", ("d",))), ("e",)], "a(b c(d)) e")
        self.check(EXAMPLE, "a(b c) d")
        self.check([("b",), ("c",), ("d",)], "b c d")
        self.check([("e", ("a", ("b",), ("c",)), ("d",))], "e(a(b c) d)")
        self.check([("a", ("b",), ("e", ("c",))), ("d",)], "a(b e(c)) d")
        self.check([("b",), ("e", ("c",), ("d",))], "b e(c d)")

    def test_several_brackets_close_at_once(self):
        self.check([("a", ("b", ("c", ("d",)))), ("e",)], "a(b(c(d))) e")
        self.check([("a", ("b", ("c", ("d",)), ("e",)))], "a(b(c(d) e))")

    def test_marks_of_several_letters(self):
        self.check([("ab", ("c", ("def",)), ("ab",)), ("zz",)], "ab(c(def) ab) zz")

    def test_deep_and_broad_rows(self):
        for count in (1, 2, 9, 109, 110, 111, 150):
            self.check(deep(count), "a(" * (count - 1) + "a" + ")" * (count - 1))
            self.check(broad(count), " ".join("a" * count))
            self.check([("b", *broad(count - 1), ("c",))], "b(" + "a " * (count - 1) + "c)")
            self.check([("c",), *deep(count), ("d",)], "c " + "a(" * (count - 1) + "a" + ")" * (count - 1) + " d")

    def test_drawn_rows_of_a_hundred_and_ten_knots(self):
        draws = Draws(10)
        for marks in ("a", "abcxyz", ["a", "aa", "bcd", "z" * 28]):
            for _ in range(20):
                row = draws.row(110, marks)
                self.check(row, written(row))

    def test_every_small_row(self):
        for row in small_rows(6) + marked_rows(3, ["a", "ab"]):
            self.check(row, written(row))


class Refused(unittest.TestCase):
    def check(self, line):
        with self.subTest(line=line):
            for kind in (NoRow, TreeError, ValueError):
                with self.assertRaises(kind) as caught:
                    read(line)
                self.assertIs(type(caught.exception), NoRow)

    def test_the_document_names_them(self):
        for line in ("a()", "a(b", "a (b)", "a  b", "(a)", "a(b )", "A", "a(b)c"):
            self.check(line)

    def test_a_blank_at_either_end(self):
        for line in (" ", "  ", " a", "a ", " a b", "a b ", " a(b)", "a(b) ", "a( b)", "a(b c )", "a(b) (c)"):
            self.check(line)

    def test_two_blanks(self):
        for line in ("a  b", "a(b)  c", "a(b  c)", "a   b"):
            self.check(line)

    def test_brackets_with_nothing_between(self):
        for line in ("()", "a()", "a(b())", "a() b", "a(() b)", "a( )", "()a", "a(b)()"):
            self.check(line)

    def test_brackets_that_do_not_close(self):
        for line in ("(", "a(", "a(b", "a(b(c)", "a(b c", "a(b) c(", "a(b(c d) e", "a(" * 110 + "a" + ")" * 109):
            self.check(line)

    def test_brackets_that_were_not_opened(self):
        for line in (")", "a)", "a)b", "a b)", "a(b))", "a(b)) c(d", "a) b(c", "a) b", "a(" * 109 + "a" + ")" * 110):
            self.check(line)

    def test_a_bracket_behind_a_blank_or_another_bracket(self):
        for line in ("a (b)", "a(b (c))", "a (", "a )", "((a))", "(a)", "a((b))", "a(b)(c)", "(a) b", "a (b) c"):
            self.check(line)

    def test_a_mark_right_behind_a_closing_bracket(self):
        for line in ("a(b)c", "a(b(c)d)", "a(b)c d", "a(b)c(d)"):
            self.check(line)

    def test_other_signs_at_every_place_of_a_line(self):
        for sign in SIGNS:
            if sign not in "abcdefghijklmnopqrstuvwxyz( )":
                self.check(sign)
                for place in range(len("ab(c) d") + 1):
                    self.check("ab(c) d"[:place] + sign + "ab(c) d"[place:])
                    self.check("ab(c) d"[:place] + sign + "ab(c) d"[place + 1:])

    def test_what_other_notes_would_have(self):
        for line in ("a,b", "a(b,c)", "[a]", "a[b]", "a{b}", "a1", "1", "aB", "a_b", "a-b", "a.b", "'a'", "a(b);", "~"):
            self.check(line)


class EveryShortText(unittest.TestCase):
    def test_just_the_lines_of_rows_are_read(self):
        known = {}
        for length in range(9):
            good = dict.fromkeys(good_lines(length, known))
            for chosen in itertools.product("a( )", repeat=length):
                self.check("".join(chosen), good)

    def test_the_good_lines_of_a_few_signs(self):
        self.assertEqual(good_lines(0, {}), [""])
        self.assertEqual(good_lines(4, {}), ["a aa", "a(a)", "aa a", "aaaa"])
        self.assertIn("a(a a)", good_lines(6, {}))
        self.assertIn("a(a) a", good_lines(6, {}))

    def check(self, line, good):
        try:
            row = read(line)
        except NoRow:
            self.assertNotIn(line, good)
        else:
            self.assertIn(line, good)
            self.assertEqual(shown(row), line)
            self.assertEqual(written(row), line)


if __name__ == "__main__":
    unittest.main()
