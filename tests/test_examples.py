"""The examples of the document, as they stand."""

import unittest


class StageOneExamples(unittest.TestCase):
    def test_features(self):
        from clipforms.contents import drop, keep, used
        content = ((1, ((("ab", ("", True, False)),), (("c", ("", False, False)),))),)
        self.assertEqual(
            [used(content), drop(content, "cells"), keep(content, ("cells",))],
            [('cells', 'nest', 'bold'), ((1, ((('ab', ('', True, False)), (' c', ('', False, False))),)),), ((0, ((('ab', ('', False, False)),), (('c', ('', False, False)),))),)],
        )


class StageTwoExamples(unittest.TestCase):
    def test_read_and_write(self):
        from clipforms.forms import PLAIN, read, write
        form = ("star", "|", ">", "*", "", "[", ":", "]", "!")
        content = read(form, ">*a!*b*|[w1:see]\nc|")
        self.assertEqual(
            [content[1], write(form, content), write(PLAIN, content)],
            [(0, ((('c', ('', False, False)),), ())), '>*a!*b*|[w1:see]\nc|', 'a*b see\nc '],
        )

    def test_problem(self):
        from clipforms.errors import SyntaxProblem
        from clipforms.forms import read
        with self.assertRaises(SyntaxProblem) as caught:
            read(("star", "|", ">", "*", "", "[", ":", "]", "!"), "a*b\nc")
        self.assertEqual((caught.exception.line, caught.exception.column), (1, 4))


class StageThreeExamples(unittest.TestCase):
    def test_best(self):
        from clipforms.forms import PLAIN
        from clipforms.makers import best
        forms = {"plain": PLAIN, "star": ("star", "", "", "*", "", "", "", "", "!"), "tab": ("tab", "|", "", "", "", "", "", "", "!")}
        makers = (("a", "star", "plain", 2), ("b", "star", "tab", 1), ("c", "tab", "plain", 0))
        self.assertEqual(
            best(forms, makers, "star", ("bold",), "plain"),
            ('chain', (), ('b', 'c'), (('bold', ('star',)),), (('plain', (1, 2, ('b', 'c'))), ('star', (0, 0, ())), ('tab', (1, 1, ('b',))))),
        )


class StageFourExamples(unittest.TestCase):
    def test_asked(self):
        from clipforms.entries import Entry, asked
        from clipforms.forms import PLAIN
        forms = {"plain": PLAIN, "star": ("star", "", "", "*", "", "", "", "", "!"), "dot": ("dot", "", "", ".", "", "", "", "", "!")}
        makers = (("a", "star", "dot", 1), ("b", "dot", "plain", 1), ("c", "star", "plain", 5))
        entry = Entry(1, ((0, ((("x", ("", True, False)),),)),), "star", ("plain", "dot"), forms, makers)
        text, rows, later = asked(forms, makers, entry, "plain")
        self.assertEqual(
            [entry.dues, text, rows, asked(forms, (), later, "dot")[:2]],
            [{'plain': (), 'dot': ('bold',)}, 'x', (('a', 'dot', ('bold',)), ('b', 'plain', ())), ('.x.', ())],
        )


class StageFiveExamples(unittest.TestCase):
    def test_ends(self):
        from clipforms.ends import ended, lost_forms, to_make
        from clipforms.entries import Entry
        from clipforms.forms import PLAIN
        forms = {"plain": PLAIN, "star": ("star", "", "", "*", "", "", "", "", "!"), "dot": ("dot", "", "", ".", "", "", "", "", "!")}
        makers = (("a", "star", "dot", 1), ("b", "dot", "plain", 1))
        entry = Entry(1, ((0, ((("x", ("", True, False)),),)),), "star", ("plain", "dot"), forms, makers)
        self.assertEqual(
            [lost_forms(forms, makers, makers[1:], entry, False), to_make(forms, makers, makers[1:], entry, False), ended(forms, makers, makers[1:], entry, False)[0]],
            [('plain', 'dot'), (('dot', (('dot',), ('dot',))),), (('a', 'dot', ('bold',)),)],
        )
