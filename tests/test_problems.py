"""Point 9: the line and the column of the first problem of a text."""

import unittest
from itertools import product

from clipforms.contents import is_content
from clipforms.errors import SyntaxProblem
from clipforms.forms import PLAIN, read
from tests.samples import ALONE, FULL


def problem(form, text):
    """The line and the column of the first problem, or None."""
    try:
        content = read(form, text)
    except SyntaxProblem as error:
        return (error.line, error.column)
    assert is_content(content)
    return None


class Case(unittest.TestCase):
    def assert_problem(self, text, line, column, form=FULL):
        self.assertEqual(problem(form, text), (line, column), repr(text)[:100])

    def assert_fine(self, text, form=FULL):
        self.assertIsNone(problem(form, text), repr(text)[:100])


class Characters(Case):
    def test_tabs(self):
        self.assert_problem("\t", 1, 1)
        self.assert_problem("ab\tc", 1, 3)
        self.assert_problem("ab\nc\t", 2, 2)
        self.assert_problem(">>\t", 1, 3)
        self.assert_problem("*\t*", 1, 2)
        self.assert_problem("[a\tb:c]", 1, 3)
        self.assert_problem("!\t", 1, 2)
        self.assert_problem("a|\t", 1, 3)
        self.assert_problem("a\n\nb\tc", 3, 2, PLAIN)
        self.assert_problem("\t", 1, 1, PLAIN)

    def test_level_sign_behind_the_beginning(self):
        self.assert_problem("a>", 1, 2)
        self.assert_problem(">a>b", 1, 3)
        self.assert_problem(">>a\n*>b*", 2, 2)
        self.assert_problem("|>", 1, 2)
        self.assert_problem(" >", 1, 2)
        self.assert_problem("!>>", 1, 3)
        self.assert_problem("[a:>]", 1, 4)
        self.assert_problem("**>", 1, 3)
        self.assert_problem("a>", 1, 2, ALONE["nest"])
        self.assert_fine("a>", ALONE["bold"])

    def test_seventh_level_sign(self):
        self.assert_fine(">>>>>>")
        self.assert_fine(">>>>>>a")
        self.assert_problem(">>>>>>>", 1, 7)
        self.assert_problem(">>>>>>>>a", 1, 7)
        self.assert_problem("a\n>>>>>>>b", 2, 7)
        self.assert_problem(">>>>>>a>", 1, 8)
        self.assert_fine(">>>>>>!>")
        self.assert_fine(">>>>>>>", PLAIN)


class Links(Case):
    def test_signs_out_of_place(self):
        self.assert_problem(":", 1, 1)
        self.assert_problem("a:b", 1, 2)
        self.assert_problem("[a::b]", 1, 4)
        self.assert_problem("[a:b:c]", 1, 5)
        self.assert_problem("[a:b]:", 1, 6)
        self.assert_problem("[a:[b:c]]", 1, 4)
        self.assert_problem("[a:b[", 1, 5)
        self.assert_problem("]", 1, 1)
        self.assert_problem("a]b", 1, 2)
        self.assert_problem("[a:b]]", 1, 6)
        self.assert_problem("x\n*]*", 2, 2)

    def test_characters_in_a_word(self):
        for char in "A_ .-|>*[]!\"~Z":
            self.assert_problem("[" + char, 1, 2)
            self.assert_problem("[ab" + char + ":c]", 1, 4)
        self.assert_problem("[ab\n:c]", 1, 4)
        self.assert_problem("[!:", 1, 2)
        for word in ("a", "z", "0", "9", "a0", "0a"):
            self.assert_fine("[" + word + ":c]")

    def test_length_of_a_word(self):
        self.assert_problem("[:a]", 1, 2)
        self.assert_problem("ab[:", 1, 4)
        self.assert_fine("[a:b]")
        self.assert_fine("[" + "a" * 12 + ":b]")
        self.assert_problem("[" + "a" * 13 + ":b]", 1, 14)
        self.assert_problem("[" + "a" * 13, 1, 14)
        self.assert_problem("[" + "a" * 12 + "|", 1, 14)
        self.assert_problem("[" + "a" * 14, 1, 14)
        self.assert_problem("[" + "a" * 12, 1, 14)
        self.assert_problem("[" + "a" * 11, 1, 13)

    def test_not_ended(self):
        self.assert_problem("[", 1, 2)
        self.assert_problem("[a", 1, 3)
        self.assert_problem("[a\nb", 1, 3)
        self.assert_problem("[a|b", 1, 3)
        self.assert_problem("[a:", 1, 4)
        self.assert_problem("[a:b", 1, 5)
        self.assert_problem("[a:b\n]", 1, 5)
        self.assert_problem("[a:b|]", 1, 5)


class Escapes(Case):
    def test_behind_an_escape_sign(self):
        self.assert_problem("!a", 1, 2)
        self.assert_problem("a! b", 1, 3)
        self.assert_problem("x\n!!!a", 2, 4)
        self.assert_problem("!0", 1, 2)
        self.assert_problem("!?", 1, 2)
        self.assert_problem("*!a*", 1, 3)
        self.assert_problem("!*", 1, 2, ALONE["cells"])
        self.assert_fine("!|", ALONE["cells"])
        self.assert_fine("!a", PLAIN)

    def test_at_the_end_of_a_line(self):
        self.assert_problem("!", 1, 2)
        self.assert_problem("ab!", 1, 4)
        self.assert_problem("a!\nb", 1, 3)
        self.assert_problem("a\n>!\nb", 2, 3)
        self.assert_problem("!!!", 1, 4)
        self.assert_fine("!!")


class MarksThatAreOn(Case):
    def test_at_a_cell_sign(self):
        self.assert_problem("*a|b*", 1, 3)
        self.assert_problem("_a|b_", 1, 3)
        self.assert_problem("[a:b|c]", 1, 5)
        self.assert_problem("*|*", 1, 2)
        self.assert_problem("a|_|", 1, 4)
        self.assert_problem("*a_|", 1, 4)
        self.assert_fine("*a*|_b_|[c:d]|*_[e:f]_*")

    def test_at_a_newline(self):
        self.assert_problem("*a\nb*", 1, 3)
        self.assert_problem("x\n_a\n", 2, 3)
        self.assert_problem("[a:b\n", 1, 5)
        self.assert_problem("*\n", 1, 2)

    def test_at_the_end_of_the_text(self):
        self.assert_problem("*a", 1, 3)
        self.assert_problem("a*", 1, 3)
        self.assert_problem("x\n>_a", 2, 4)
        self.assert_problem("a|[a:b", 1, 7)
        self.assert_problem("*_a*", 1, 5)
        self.assert_problem("***", 1, 4)
        self.assert_fine("*a*")


class Bounds(Case):
    def test_cell_signs(self):
        self.assert_fine("|" * 10)
        self.assert_fine("|" * 11)
        self.assert_problem("|" * 12, 1, 12)
        self.assert_problem("|" * 13, 1, 12)
        self.assert_problem("x\n>" + "a|" * 12, 2, 25)
        self.assert_fine("|" * 11 + "a")
        self.assert_fine("|" * 11 + "!|")
        self.assert_fine("|" * 11 + "\n" + "|" * 11)
        self.assert_fine("|" * 12, PLAIN)

    def test_first_cell_of_several(self):
        self.assert_fine("a" * 40 + "|")
        self.assert_problem("a" * 41 + "|", 1, 42)
        self.assert_problem("a" * 100 + "|b", 1, 101)
        self.assert_problem("a" * 491 + "|b", 1, 492)
        self.assert_fine("a" * 41)
        self.assert_fine("!*" * 40 + "|")
        self.assert_problem("!*" * 41 + "|", 1, 83)
        self.assert_problem("a" * 41 + "\t|", 1, 42)
        self.assert_fine("a|b\n" + "a" * 41)
        self.assert_problem("a|b\n>*" + "a" * 41 + "*|c", 2, 45)

    def test_later_cells(self):
        self.assert_fine("|" + "a" * 40)
        self.assert_problem("|" + "a" * 41, 1, 42)
        self.assert_problem("|" + "a" * 42, 1, 42)
        self.assert_problem("|" + "a" * 41 + "|", 1, 42)
        self.assert_fine("|" + "a" * 40 + "|" + "b" * 40)
        self.assert_problem("|" + "a" * 40 + "|" + "b" * 41, 1, 83)
        self.assert_fine("|*" + "a" * 40 + "*")
        self.assert_problem("|*" + "a" * 41 + "*", 1, 43)
        self.assert_problem("|[ab:" + "a" * 41 + "]", 1, 46)
        self.assert_fine("|" + "a" * 39 + "[abc:d]**")

    def test_escaped_characters_of_later_cells(self):
        self.assert_fine("|" + "!*" * 40)
        self.assert_problem("|" + "!*" * 41, 1, 82)
        self.assert_fine("|" + "a" * 39 + "!*")
        self.assert_problem("|" + "a" * 40 + "!*", 1, 42)
        self.assert_problem("|" + "a" * 40 + "!", 1, 42)
        self.assert_problem("|" + "a" * 40 + "!a", 1, 42)
        self.assert_problem("|" + "a" * 39 + "!*b", 1, 43)

    def test_only_cells(self):
        self.assert_fine("a" * 491)
        self.assert_problem("a" * 492, 1, 492)
        self.assert_problem("a" * 500, 1, 492)
        self.assert_problem("a" * 492, 1, 492, PLAIN)
        self.assert_problem("x\n>>" + "a" * 492, 2, 494)
        self.assert_fine("*" + "a" * 491 + "*")
        self.assert_problem("*" + "a" * 492 + "*", 1, 493)

    def test_escaped_characters_of_only_cells(self):
        self.assert_fine("!*" * 491)
        self.assert_problem("!*" * 492, 1, 983)
        self.assert_fine("a" * 490 + "!*")
        self.assert_problem("a" * 491 + "!*", 1, 492)
        self.assert_problem("a" * 491 + "!", 1, 492)

    def test_lines(self):
        self.assert_fine("\n" * 199)
        self.assert_problem("\n" * 200, 201, 1)
        self.assert_problem("\n" * 250, 201, 1)
        for last in ("", "a", "\t", "]", "*", ">", "a\tb", ">>>>>>>", "a" * 492):
            self.assert_problem("a\n" * 200 + last, 201, 1)
            self.assert_problem("a\n" * 200 + last, 201, 1, PLAIN)
        self.assert_fine("a\n" * 199 + "b")
        self.assert_problem("a\n" * 199 + "*b\n", 200, 3)
        self.assert_problem("a\n" * 199 + "*b", 200, 3)


class SeveralProblems(Case):
    def test_the_first_one_is_told(self):
        self.assert_problem("ab]c\t\n:", 1, 3)
        self.assert_problem("a\n*b\n]", 2, 3)
        self.assert_problem("*]\t", 1, 2)
        self.assert_problem(">>>>>>>a>\t", 1, 7)
        self.assert_problem("a" * 491 + "]" + "b", 1, 492)
        self.assert_problem("*" + "a" * 41 + "|\t", 1, 43)
        self.assert_problem("*a" + "\n" * 200, 1, 3)
        self.assert_problem("\n" * 199 + ":\n", 200, 1)
        self.assert_problem("|" * 11 + "*|", 1, 13)
        self.assert_problem("[" + "a" * 13 + "\n\t", 1, 14)


class ShortTexts(Case):
    """The first problem is where no text that can be read goes on."""

    # What ends an escape, a word, a link and bold that may be open, in this order.
    ENDS = ["".join(parts) for parts in product(["", "!"], ["", ":", "a:"], ["", "]"], ["", "*"])]

    def goes_on(self, text):
        """Whether some text that can be read begins with this one."""
        if text not in self.known:
            self.known[text] = any(problem(FULL, text + end) is None for end in self.ENDS)
        return self.known[text]

    def offset(self, text, line, column):
        """The offset of a line and a column in a text."""
        return sum(len(part) + 1 for part in text.split("\n")[:line - 1]) + column - 1

    def test_all_short_texts(self):
        self.known = {}
        for length in range(5):
            for text in map("".join, product("a|>*[:]!\n\t", repeat=length)):
                found = problem(FULL, text)
                if found is not None:
                    at = self.offset(text, *found)
                    self.assertTrue(self.goes_on(text[:at]), repr(text))
                    self.assertTrue(at == len(text) or not self.goes_on(text[:at + 1]), repr(text))
