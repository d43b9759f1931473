"""Point 7: the text of a content in a form."""

import copy
import unittest

from clipforms.contents import keep
from clipforms.forms import PLAIN, carried, read, write
from tests.samples import (
    ALL, ALL_MARKS, ALONE, BOLD, FULL, LINK, RICH, SLANT, cell, feature_sets, form_carrying, many_contents, one_line,
)


class Lines(unittest.TestCase):
    def test_lines_and_depths(self):
        content = ((0, (cell("a"),)), (1, (cell(),)), (6, (cell("b"),)), (0, (cell(),)))
        self.assertEqual(write(FULL, content), "a\n>\n>>>>>>b\n")

    def test_cells(self):
        self.assertEqual(write(FULL, one_line(cell("a"), cell("b"))), "a|b")
        self.assertEqual(write(FULL, one_line(cell(), cell())), "|")
        self.assertEqual(write(FULL, one_line(cell(), cell("a"), cell())), "|a|")
        self.assertEqual(write(FULL, one_line(*[cell("a b")] * 12)), "|".join(["a b"] * 12))
        self.assertEqual(write(FULL, ((2, (cell(), cell("a"))), (1, (cell("b"), cell())))), ">>|a\n>b|")

    def test_empty_and_largest(self):
        self.assertEqual(write(FULL, one_line(cell())), "")
        self.assertEqual(write(FULL, ((0, (cell(),)),) * 200), "\n" * 199)
        self.assertEqual(write(FULL, one_line(cell("|" * 491))), "!|" * 491)


class Marks(unittest.TestCase):
    def test_at_the_beginning_and_the_end(self):
        self.assertEqual(write(FULL, one_line(cell(("a", BOLD)))), "*a*")
        self.assertEqual(write(FULL, one_line(cell(("a", SLANT)))), "_a_")
        self.assertEqual(write(FULL, one_line(cell(("a", LINK)))), "[w1:a]")
        self.assertEqual(write(FULL, one_line(cell(("a", ALL)))), "*_[w1:a]*_")
        self.assertEqual(write(FULL, one_line(cell(("a", ("", True, True))))), "*_a*_")

    def test_between_pieces(self):
        self.assertEqual(write(FULL, one_line(cell("a", ("b", BOLD), "c"))), "a*b*c")
        self.assertEqual(write(FULL, one_line(cell(("a", BOLD), ("b", SLANT)))), "*a*_b_")
        self.assertEqual(write(FULL, one_line(cell(("a", ("v", True, False)), ("b", ("w", False, True))))),
                         "*[v:a]*_[w:b]_")
        self.assertEqual(write(FULL, one_line(cell(("a", ("v", True, False)), ("b", ("v", False, True))))),
                         "*[v:a*_b]_")
        self.assertEqual(write(FULL, one_line(cell(("a", ("v", False, False)), ("b", ("w", False, False))))),
                         "[v:a][w:b]")
        self.assertEqual(write(FULL, one_line(cell("x", ("a", LINK), "y"))), "x[w1:a]y")

    def test_each_cell_begins_without_marks(self):
        content = one_line(cell(("a", BOLD)), cell(("b", BOLD)), cell(("c", ALL)))
        self.assertEqual(write(FULL, content), "*a*|*b*|*_[w1:c]*_")
        self.assertEqual(write(FULL, ((1, (cell(("a", LINK)),)), (2, (cell(("b", LINK)),)))), ">[w1:a]\n>>[w1:b]")

    def test_every_change(self):
        for before in ALL_MARKS:
            for behind in ALL_MARKS:
                if before != behind:
                    text = write(FULL, one_line(cell(("p", before), ("q", behind))))
                    expected = self.start(before) + "p" + self.change(before, behind) + "q" + self.stop(behind)
                    self.assertEqual(text, expected)

    def start(self, marks):
        """The signs that lead from no marks to these."""
        link, bold, slant = marks
        return "*" * bold + "_" * slant + (f"[{link}:" if link else "")

    def stop(self, marks):
        """The signs that lead from these marks to none."""
        link, bold, slant = marks
        return "]" * bool(link) + "*" * bold + "_" * slant

    def change(self, before, behind):
        """The signs that lead from marks to others."""
        is_other_link = before[0] != behind[0]
        return "".join([
            "]" if is_other_link and before[0] else "",
            "*" if before[1] != behind[1] else "",
            "_" if before[2] != behind[2] else "",
            f"[{behind[0]}:" if is_other_link and behind[0] else "",
        ])


class Escapes(unittest.TestCase):
    def test_each_sign_is_escaped(self):
        self.assertEqual(write(FULL, one_line(cell("|>*_[:]!"))), "!|!>!*!_![!:!]!!")
        self.assertEqual(write(FULL, one_line(cell("a", ("*b*", ALL), "!"))), "a*_[w1:!*b!*]*_!!")
        self.assertEqual(write(FULL, ((1, (cell(">"), cell("|"))),)), ">!>|!|")

    def test_no_other_character_is_escaped(self):
        characters = "".join(chr(code) for code in range(32, 127))
        for form in list(ALONE.values()) + [FULL]:
            signs = "".join(form[1:])
            expected = "".join("!" + char if char in signs else char for char in characters)
            self.assertEqual(write(form, one_line(cell(characters))), expected)
        self.assertEqual(write(PLAIN, one_line(cell(characters))), characters)

    def test_other_signs(self):
        form = ("x", "#", "$", "%", "&", "(", "-", ")", "\\")
        content = ((2, (cell("#|", ("a\\*", ALL)), cell("$%&(-)"))),)
        self.assertEqual(write(form, content), "$$\\#|%&(w1-a\\\\*)%&#\\$\\%\\&\\(\\-\\)")


class NotCarried(unittest.TestCase):
    def test_plain(self):
        content = ((2, (cell("a", ("*b", ALL)), cell(), cell(("c", BOLD)))), (0, (cell("!d"),)))
        self.assertEqual(write(PLAIN, content), "a*b  c\n!d")

    def test_each_carried_alone(self):
        content = ((2, (cell(("a", ALL), ("b", BOLD)), cell(("c", ("v", False, True))))), (0, (cell("d|>"),)))
        self.assertEqual(write(ALONE["cells"], content), "ab|c\nd!|>")
        self.assertEqual(write(ALONE["nest"], content), ">>ab c\nd|!>")
        self.assertEqual(write(ALONE["link"], content), "[w1:a]b [v:c]\nd|>")
        self.assertEqual(write(ALONE["bold"], content), "*ab* c\nd|>")
        self.assertEqual(write(ALONE["slant"], content), "_a_b _c_\nd|>")

    def test_dropped_before_the_text_is_made(self):
        for features in feature_sets():
            form = form_carrying(features)
            for content in many_contents():
                self.assertEqual(write(form, content), write(form, keep(content, features)))

    def test_pieces_that_become_one(self):
        content = one_line(cell(("a", ("v", True, False)), ("b", ("w", True, False))))
        self.assertEqual(write(ALONE["bold"], content), "*ab*")


class ReadAgain(unittest.TestCase):
    def test_leads_back_to_what_is_carried(self):
        for features in feature_sets():
            form = form_carrying(features)
            self.assertEqual(carried(form), features)
            for content in many_contents():
                self.assertEqual(read(form, write(form, content)), keep(content, features))

    def test_arguments_stay(self):
        before = copy.deepcopy(RICH)
        for features in feature_sets():
            write(form_carrying(features), RICH)
        self.assertEqual(RICH, before)
