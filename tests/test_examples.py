"""The examples of the document, as they stand."""

import unittest


class StageOneExamples(unittest.TestCase):
    def test_features(self):
        from clipforms.contents import drop, keep, used
        content = ((1, ((("ab", ("", True, False)),), (("c", ("", False, False)),))),)
        self.assertEqual(
            [used(content), drop(content, "cells"), keep(content, ("cells",))],
            [('cells', 'nest', 'bold'), ((1, ((('ab', ('', True, False)), (' c', ('', False, False))),)),), ((0, ((('ab', ('', False, False)),), (('c', ('', False, False)),))),)],
        )


class StageTwoExamples(unittest.TestCase):
    def test_read_and_write(self):
        from clipforms.forms import PLAIN, read, write
        form = ("star", "|", ">", "*", "", "[", ":", "]", "!")
        content = read(form, ">*a!*b*|[w1:see]\nc|")
        self.assertEqual(
            [content[1], write(form, content), write(PLAIN, content)],
            [(0, ((('c', ('', False, False)),), ())), '>*a!*b*|[w1:see]\nc|', 'a*b see\nc '],
        )

    def test_problem(self):
        from clipforms.errors import SyntaxProblem
        from clipforms.forms import read
        with self.assertRaises(SyntaxProblem) as caught:
            read(("star", "|", ">", "*", "", "[", ":", "]", "!"), "a*b\nc")
        self.assertEqual((caught.exception.line, caught.exception.column), (1, 4))
