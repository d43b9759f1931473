"""Point 8: reading a text in a form."""

import unittest
from itertools import product

from clipforms.contents import is_content
from clipforms.errors import SyntaxProblem
from clipforms.forms import PLAIN, read, write
from tests.samples import ALL, ALONE, BOLD, FULL, LINK, SLANT, cell, one_line


class Lines(unittest.TestCase):
    def test_newlines(self):
        self.assertEqual(read(FULL, ""), one_line(cell()))
        self.assertEqual(read(FULL, "\n"), ((0, (cell(),)),) * 2)
        self.assertEqual(read(FULL, "a\n\nb"), ((0, (cell("a"),)), (0, (cell(),)), (0, (cell("b"),))))
        self.assertEqual(read(PLAIN, "a\n"), ((0, (cell("a"),)), (0, (cell(),))))

    def test_depths(self):
        self.assertEqual(read(FULL, ">a\n>>>>>>b\nc"), ((1, (cell("a"),)), (6, (cell("b"),)), (0, (cell("c"),))))
        self.assertEqual(read(FULL, ">>"), ((2, (cell(),)),))
        self.assertEqual(read(FULL, ">|\n>>*a*"), ((1, (cell(), cell())), (2, (cell(("a", BOLD)),))))

    def test_cells(self):
        self.assertEqual(read(FULL, "a|b"), one_line(cell("a"), cell("b")))
        self.assertEqual(read(FULL, "|"), one_line(cell(), cell()))
        self.assertEqual(read(FULL, "||a|"), one_line(cell(), cell(), cell("a"), cell()))
        self.assertEqual(read(FULL, "a|b\nc"), ((0, (cell("a"), cell("b"))), (0, (cell("c"),))))
        self.assertEqual(read(FULL, " | "), one_line(cell(" "), cell(" ")))


class Marks(unittest.TestCase):
    def test_bold_and_slant(self):
        self.assertEqual(read(FULL, "a*b*c"), one_line(cell("a", ("b", BOLD), "c")))
        self.assertEqual(read(FULL, "_a_"), one_line(cell(("a", SLANT))))
        self.assertEqual(read(FULL, "*a_b*c_"), one_line(cell(("a", BOLD), ("b", ("", True, True)), ("c", SLANT))))

    def test_links(self):
        self.assertEqual(read(FULL, "[w1:a]"), one_line(cell(("a", LINK))))
        self.assertEqual(read(FULL, "x[v:a][w:b]y"), one_line(cell(
            "x", ("a", ("v", False, False)), ("b", ("w", False, False)), "y")))
        self.assertEqual(read(FULL, "[w1:a*b_c*]_"), one_line(cell(
            ("a", LINK), ("b", ("w1", True, False)), ("c", ALL))))
        self.assertEqual(read(FULL, "[0:a]|[abcdefghijkl:b]"), one_line(
            cell(("a", ("0", False, False))), cell(("b", ("abcdefghijkl", False, False)))))

    def test_signs_in_any_order(self):
        for text in ("*_[w1:a]*_", "_*[w1:a]*_", "[w1:*_a_*]", "*[w1:_a*]_", "_[w1:*a*_]"):
            self.assertEqual(read(FULL, text), one_line(cell(("a", ALL))))

    def test_equal_neighbours_become_one_piece(self):
        self.assertEqual(read(FULL, "*a**b*"), one_line(cell(("ab", BOLD))))
        self.assertEqual(read(FULL, "[w1:a][w1:b]"), one_line(cell(("ab", LINK))))
        self.assertEqual(read(FULL, "[w1:a*b*][w1:*c*d]"), one_line(cell(
            ("a", LINK), ("bc", ("w1", True, False)), ("d", LINK))))

    def test_no_trace_around_no_character(self):
        for text in ("**", "__", "[a:]", "****", "*_*_", "[a:*_][b:_*]", "[a:][b:]", "*[a:]*", "[a:**]"):
            self.assertEqual(read(FULL, text), one_line(cell()), text)
            self.assertEqual(read(FULL, "x" + text + "y"), one_line(cell("xy")), text)
            self.assertEqual(read(FULL, text + "|" + text + "x"), one_line(cell(), cell("x")), text)
            self.assertEqual(read(FULL, ">" + text), ((1, (cell(),)),), text)
        self.assertEqual(read(FULL, "*a" + "__" + "b*"), one_line(cell(("ab", BOLD))))
        self.assertEqual(read(FULL, "*a" + "**" * 500 + "b*"), one_line(cell(("ab", BOLD))))
        self.assertEqual(read(FULL, "x" * 491 + "[a:*]*"), one_line(cell("x" * 491)))


class Escapes(unittest.TestCase):
    def test_each_sign(self):
        self.assertEqual(read(FULL, "!|!>!*!_![!:!]!!"), one_line(cell("|>*_[:]!")))
        self.assertEqual(read(FULL, "*!**[w1:!]]"), one_line(cell(("*", BOLD), ("]", LINK))))
        self.assertEqual(read(FULL, "!>a"), one_line(cell(">a")))
        self.assertEqual(read(FULL, ">!>a"), ((1, (cell(">a"),)),))

    def test_other_characters_stand_for_themselves(self):
        characters = "".join(chr(code) for code in range(32, 127))
        self.assertEqual(read(PLAIN, characters), one_line(cell(characters)))
        for form in ALONE.values():
            others = "".join(char for char in characters if char not in form[1:])
            self.assertEqual(read(form, others), one_line(cell(others)))
        self.assertEqual(read(ALONE["bold"], "*a|>*_[w:]"), one_line(cell(("a|>", BOLD), "_[w:]")))
        self.assertEqual(read(ALONE["cells"], "!|[a]|>"), one_line(cell("|[a]"), cell(">")))
        self.assertEqual(read(ALONE["nest"], ">>a|*"), ((2, (cell("a|*"),)),))


class OtherForms(unittest.TestCase):
    def test_other_signs(self):
        form = ("x", "#", "$", "%", "&", "(", "-", ")", "\\")
        self.assertEqual(read(form, "$$a\\#|%b%#(w1-c&d&)"), ((2, (
            cell("a#|", ("b", BOLD)), cell(("c", LINK), ("d", ("w1", False, True))))),))

    def test_sizes(self):
        self.assertEqual(read(FULL, "\n" * 199), ((0, (cell(),)),) * 200)
        self.assertEqual(read(PLAIN, "a" * 491), one_line(cell("a" * 491)))
        self.assertEqual(read(FULL, "|".join(["!|" * 40] * 12)), one_line(*[cell("|" * 40)] * 12))


class ShortTexts(unittest.TestCase):
    def test_what_is_read_is_a_content_that_writes_it_again(self):
        read_ones = 0
        for length in range(6):
            for text in map("".join, product("a|>*[:]!\n", repeat=length)):
                try:
                    content = read(FULL, text)
                except SyntaxProblem:
                    continue
                read_ones += 1
                self.assertTrue(is_content(content), text)
                self.assertEqual(read(FULL, write(FULL, content)), content, text)
        self.assertGreater(read_ones, 1000)
