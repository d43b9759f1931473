"""The examples of the document, as they stand."""

import unittest


class StageOneExamples(unittest.TestCase):
    def test_features(self):
        from clipforms.contents import drop, keep, used
        content = ((1, ((("ab", ("", True, False)),), (("c", ("", False, False)),))),)
        self.assertEqual(
            [used(content), drop(content, "cells"), keep(content, ("cells",))],
            [('cells', 'nest', 'bold'), ((1, ((('ab', ('', True, False)), (' c', ('', False, False))),)),), ((0, ((('ab', ('', False, False)),), (('c', ('', False, False)),))),)],
        )


class StageTwoExamples(unittest.TestCase):
    def test_read_and_write(self):
        from clipforms.forms import PLAIN, read, write
        form = ("star", "|", ">", "*", "", "[", ":", "]", "!")
        content = read(form, ">*a!*b*|[w1:see]\nc|")
        self.assertEqual(
            [content[1], write(form, content), write(PLAIN, content)],
            [(0, ((('c', ('', False, False)),), ())), '>*a!*b*|[w1:see]\nc|', 'a*b see\nc '],
        )

    def test_problem(self):
        from clipforms.errors import SyntaxProblem
        from clipforms.forms import read
        with self.assertRaises(SyntaxProblem) as caught:
            read(("star", "|", ">", "*", "", "[", ":", "]", "!"), "a*b\nc")
        self.assertEqual((caught.exception.line, caught.exception.column), (1, 4))


class StageThreeExamples(unittest.TestCase):
    def test_best(self):
        from clipforms.forms import PLAIN
        from clipforms.makers import best
        forms = {"plain": PLAIN, "star": ("star", "", "", "*", "", "", "", "", "!"), "tab": ("tab", "|", "", "", "", "", "", "", "!")}
        makers = (("a", "star", "plain", 2), ("b", "star", "tab", 1), ("c", "tab", "plain", 0))
        self.assertEqual(
            best(forms, makers, "star", ("bold",), "plain"),
            ('chain', (), ('b', 'c'), (('bold', ('star',)),), (('plain', (1, 2, ('b', 'c'))), ('star', (0, 0, ())), ('tab', (1, 1, ('b',))))),
        )


class StageFourExamples(unittest.TestCase):
    def test_asked(self):
        from clipforms.entries import Entry, asked
        from clipforms.forms import PLAIN
        forms = {"plain": PLAIN, "star": ("star", "", "", "*", "", "", "", "", "!"), "dot": ("dot", "", "", ".", "", "", "", "", "!")}
        makers = (("a", "star", "dot", 1), ("b", "dot", "plain", 1), ("c", "star", "plain", 5))
        entry = Entry(1, ((0, ((("x", ("", True, False)),),)),), "star", ("plain", "dot"), forms, makers)
        text, rows, later = asked(forms, makers, entry, "plain")
        self.assertEqual(
            [entry.dues, text, rows, asked(forms, (), later, "dot")[:2]],
            [{'plain': (), 'dot': ('bold',)}, 'x', (('a', 'dot', ('bold',)), ('b', 'plain', ())), ('.x.', ())],
        )


class StageFiveExamples(unittest.TestCase):
    def test_ends(self):
        from clipforms.ends import ended, lost_forms, to_make
        from clipforms.entries import Entry
        from clipforms.forms import PLAIN
        forms = {"plain": PLAIN, "star": ("star", "", "", "*", "", "", "", "", "!"), "dot": ("dot", "", "", ".", "", "", "", "", "!")}
        makers = (("a", "star", "dot", 1), ("b", "dot", "plain", 1))
        entry = Entry(1, ((0, ((("x", ("", True, False)),),)),), "star", ("plain", "dot"), forms, makers)
        self.assertEqual(
            [lost_forms(forms, makers, makers[1:], entry, False), to_make(forms, makers, makers[1:], entry, False), ended(forms, makers, makers[1:], entry, False)[0]],
            [('plain', 'dot'), (('dot', (('dot',), ('dot',))),), (('a', 'dot', ('bold',)),)],
        )


class StageSixExamples(unittest.TestCase):
    def test_edited(self):
        from clipforms.documents import edited
        from clipforms.forms import PLAIN, read, write
        content = read(PLAIN, "ab\nc")
        self.assertEqual(
            [write(PLAIN, edited(PLAIN, content, edit)) for edit in [("cut", 0, 0, 1), ("glue", 0), ("delete", 0, 0), ("enter", 1, 0, 1, "d", ("", False, False))]],
            ['a\nb\nc', 'abc', 'c', 'ab\ncd'],
        )

    def test_not_carried(self):
        from clipforms.documents import edited
        from clipforms.errors import NotCarried
        from clipforms.forms import PLAIN, read
        with self.assertRaises(NotCarried) as caught:
            edited(PLAIN, read(PLAIN, "ab"), ("mark", 0, 0, 0, 1, "bold", True))
        self.assertEqual(caught.exception.feature, 'bold')


class StageSevenExamples(unittest.TestCase):
    def test_end(self):
        from clipforms.desk import Desk
        desk = Desk()
        program = desk.begin("pad")
        desk.bring(program, ("star", "", "", "*", "", "", "", "", "!"))
        desk.supply(program, ("a", "star", "plain", 1))
        document = desk.open_document(program, "star", "a *b*")
        entry = desk.copy(document, ("lines", 0, 0), None, False)
        desk.edit(document, ("erase", 0, 0, 0, 1))
        told = [desk.offered(entry), desk.end(program)]
        self.assertEqual(
            [told, desk.ask(entry, "star"), desk.can_ask(entry), desk.log()],
            [[[('plain', ()), ('star', ('bold',))], [(1, 'plain', (('plain',), ('plain',))), (1, 'star', (('star',), ('star',)))]], 'a *b*', ['plain', 'star'], [(1, 'a', 'plain', ())]],
        )

    def test_move(self):
        from clipforms.desk import Desk
        desk = Desk()
        document = desk.open_document(desk.begin("pad"), "plain", "ab\ncd")
        desk.drag(document, ("lines", 1, 1), document, (0, 0, 1), True)
        before = desk.text(document)
        desk.undo(document)
        self.assertEqual([before, desk.text(document)], ['acdb', 'ab\ncd'])


class StageEightExamples(unittest.TestCase):
    def test_console(self):
        from clipforms.console import Console
        console = Console()
        lines = ["begin pad", "bring 1 star none none * none none none none !", "supply 1 a star plain 1", "open 1 star : a *b*"]
        begun = [console.execute(line) for line in lines]
        self.assertEqual(
            [begun, [console.execute(line) for line in ("copy 1 lines 0 0 : all", "offered 1", "enter 1 0 0 0 - b : x", "text 1", "ask 1 plain", "log")]],
            [['1', 'ok', 'ok', '1'], ['1', 'plain nothing, star bold', 'ok', '*x*a *b*', 'a b', '1 a plain nothing']],
        )
