"""The examples of the document, as they stand."""

import unittest


class StageOneExamples(unittest.TestCase):
    def test_features(self):
        from clipforms.contents import drop, keep, used
        content = ((1, ((("ab", ("", True, False)),), (("c", ("", False, False)),))),)
        self.assertEqual(
            [used(content), drop(content, "cells"), keep(content, ("cells",))],
            [('cells', 'nest', 'bold'), ((1, ((('ab', ('', True, False)), (' c', ('', False, False))),)),), ((0, ((('ab', ('', False, False)),), (('c', ('', False, False)),))),)],
        )


class StageTwoExamples(unittest.TestCase):
    def test_read_and_write(self):
        from clipforms.forms import PLAIN, read, write
        form = ("star", "|", ">", "*", "", "[", ":", "]", "!")
        content = read(form, ">*a!*b*|[w1:see]\nc|")
        self.assertEqual(
            [content[1], write(form, content), write(PLAIN, content)],
            [(0, ((('c', ('', False, False)),), ())), '>*a!*b*|[w1:see]\nc|', 'a*b see\nc '],
        )

    def test_problem(self):
        from clipforms.errors import SyntaxProblem
        from clipforms.forms import read
        with self.assertRaises(SyntaxProblem) as caught:
            read(("star", "|", ">", "*", "", "[", ":", "]", "!"), "a*b\nc")
        self.assertEqual((caught.exception.line, caught.exception.column), (1, 4))


class StageThreeExamples(unittest.TestCase):
    def test_best(self):
        from clipforms.forms import PLAIN
        from clipforms.makers import best
        forms = {"plain": PLAIN, "star": ("star", "", "", "*", "", "", "", "", "!"), "tab": ("tab", "|", "", "", "", "", "", "", "!")}
        makers = (("a", "star", "plain", 2), ("b", "star", "tab", 1), ("c", "tab", "plain", 0))
        self.assertEqual(
            best(forms, makers, "star", ("bold",), "plain"),
            ('chain', (), ('b', 'c'), (('bold', ('star',)),), (('plain', (1, 2, ('b', 'c'))), ('star', (0, 0, ())), ('tab', (1, 1, ('b',))))),
        )


class StageFourExamples(unittest.TestCase):
    def test_asked(self):
        from clipforms.entries import Entry, asked
        from clipforms.forms import PLAIN
        forms = {"plain": PLAIN, "star": ("star", "", "", "*", "", "", "", "", "!"), "dot": ("dot", "", "", ".", "", "", "", "", "!")}
        makers = (("a", "star", "dot", 1), ("b", "dot", "plain", 1), ("c", "star", "plain", 5))
        entry = Entry(1, ((0, ((("x", ("", True, False)),),)),), "star", ("plain", "dot"), forms, makers)
        text, rows, later = asked(forms, makers, entry, "plain")
        self.assertEqual(
            [entry.dues, text, rows, asked(forms, (), later, "dot")[:2]],
            [{'plain': (), 'dot': ('bold',)}, 'x', (('a', 'dot', ('bold',)), ('b', 'plain', ())), ('.x.', ())],
        )


class StageFiveExamples(unittest.TestCase):
    def test_ends(self):
        from clipforms.ends import ended, lost_forms, to_make
        from clipforms.entries import Entry
        from clipforms.forms import PLAIN
        forms = {"plain": PLAIN, "star": ("star", "", "", "*", "", "", "", "", "!"), "dot": ("dot", "", "", ".", "", "", "", "", "!")}
        makers = (("a", "star", "dot", 1), ("b", "dot", "plain", 1))
        entry = Entry(1, ((0, ((("x", ("", True, False)),),)),), "star", ("plain", "dot"), forms, makers)
        self.assertEqual(
            [lost_forms(forms, makers, makers[1:], entry, False), to_make(forms, makers, makers[1:], entry, False), ended(forms, makers, makers[1:], entry, False)[0]],
            [('plain', 'dot'), (('dot', (('dot',), ('dot',))),), (('a', 'dot', ('bold',)),)],
        )


class StageSixExamples(unittest.TestCase):
    def test_edited(self):
        from clipforms.documents import edited
        from clipforms.forms import PLAIN, read, write
        content = read(PLAIN, "ab\nc")
        self.assertEqual(
            [write(PLAIN, edited(PLAIN, content, edit)) for edit in [("cut", 0, 0, 1), ("glue", 0), ("delete", 0, 0), ("enter", 1, 0, 1, "d", ("", False, False))]],
            ['a\nb\nc', 'abc', 'c', 'ab\ncd'],
        )

    def test_not_carried(self):
        from clipforms.documents import edited
        from clipforms.errors import NotCarried
        from clipforms.forms import PLAIN, read
        with self.assertRaises(NotCarried) as caught:
            edited(PLAIN, read(PLAIN, "ab"), ("mark", 0, 0, 0, 1, "bold", True))
        self.assertEqual(caught.exception.feature, 'bold')


class StageSevenExamples(unittest.TestCase):
    def test_end(self):
        from clipforms.desk import Desk
        desk = Desk()
        program = desk.begin("pad")
        desk.bring(program, ("star", "", "", "*", "", "", "", "", "!"))
        desk.supply(program, ("a", "star", "plain", 1))
        document = desk.open_document(program, "star", "a *b*")
        entry = desk.copy(document, ("lines", 0, 0), None, False)
        desk.edit(document, ("erase", 0, 0, 0, 1))
        told = [desk.offered(entry), desk.end(program)]
        self.assertEqual(
            [told, desk.ask(entry, "star"), desk.can_ask(entry), desk.log()],
            [[[('plain', ()), ('star', ('bold',))], [(1, 'plain', (('plain',), ('plain',))), (1, 'star', (('star',), ('star',)))]], 'a *b*', ['plain', 'star'], [(1, 'a', 'plain', ())]],
        )

    def test_move(self):
        from clipforms.desk import Desk
        desk = Desk()
        document = desk.open_document(desk.begin("pad"), "plain", "ab\ncd")
        desk.drag(document, ("lines", 1, 1), document, (0, 0, 1), True)
        before = desk.text(document)
        desk.undo(document)
        self.assertEqual([before, desk.text(document)], ['acdb', 'ab\ncd'])


class StageEightExamples(unittest.TestCase):
    def test_console(self):
        from clipforms.console import Console
        console = Console()
        lines = ["begin pad", "bring 1 star none none * none none none none !", "supply 1 a star plain 1", "open 1 star : a *b*"]
        begun = [console.execute(line) for line in lines]
        self.assertEqual(
            [begun, [console.execute(line) for line in ("copy 1 lines 0 0 : all", "offered 1", "enter 1 0 0 0 - b : x", "text 1", "ask 1 plain", "log")]],
            [['1', 'ok', 'ok', '1'], ['1', 'plain nothing, star bold', 'ok', '*x*a *b*', 'a b', '1 a plain nothing']],
        )


class StageNineExamples(unittest.TestCase):
    def test_parse_and_format(self):
        from clipforms.programs import format_program, parse_program
        text = "form star bold * escape !\n\nmaker a from star to plain cost 2"
        forms, makers = parse_program(text, [])
        self.assertEqual(
            [(forms, makers), format_program(forms, makers)],
            [((('star', '', '', '*', '', '', '', '', '!'),), (('a', 'star', 'plain', 2),)), 'form star bold * escape !\nmaker a from star to plain cost 2'],
        )

    def test_problem(self):
        from clipforms.errors import SyntaxProblem
        from clipforms.programs import parse_program
        with self.assertRaises(SyntaxProblem) as caught:
            parse_program("form star bold *\nform tab cell |", [])
        self.assertEqual((caught.exception.line, caught.exception.column), (1, 17))


class StageTenExamples(unittest.TestCase):
    def test_asking(self):
        from clipforms.hall import Hall
        hall = Hall()
        ready = [hall.set_up("a"), hall.set_up("b"), hall.link("b", "a", 2)]
        self.assertEqual(ready, [None] * 3)
        program = hall.begin("a", "pad", "form star bold * escape !\nmaker m from star to plain cost 1")
        other = hall.begin("b", "pen", "form star bold * escape !\nmaker m from star to plain cost 5")
        self.assertEqual(other, 2)
        entry = hall.copy(hall.open_document(program, "star", "x*y*"), ("lines", 0, 0), None)
        self.assertEqual(
            [hall.offered(entry), hall.ask(entry, "b/plain"), hall.log()],
            [[('a/plain', ()), ('a/star', ('bold',)), ('b/plain', ()), ('b/star', ('bold',))], 'xy', [(1, 'a/m', 'a/plain', ()), (1, 'a>b/plain', 'b/plain', ())]],
        )

    def test_deeds(self):
        from clipforms.hall import Hall
        hall = Hall()
        ready = [hall.set_up("a"), hall.set_up("b"), hall.link("a", "b", 0)]
        self.assertEqual(ready, [None] * 3)
        program = hall.begin("a", "pad", "")
        entry = hall.copy(hall.open_document(program, "plain", "x"), ("lines", 0, 0), None)
        self.assertEqual(
            [hall.unlink("a", "b"), hall.fall("a"), hall.ask(entry, "b/plain"), hall.offered(entry)],
            [[(1, 'b/plain', (('b/plain',), ('b/plain',)))], None, 'x', [('b/plain', ())]],
        )


class StageElevenExamples(unittest.TestCase):
    def test_journal(self):
        from clipforms.journals import first_wrong, format_deed, parse_deed, shortened
        lines = ["desk a", "keep", "begin a pad : ", "open 1 plain : xy", "back 0", "desk b", "link a b 3"]
        journal = [parse_deed(line) for line in lines]
        self.assertEqual(
            [journal[3], [format_deed(deed) for deed in shortened(journal)], first_wrong(journal), first_wrong(journal + [("end", 1)])],
            [('open', 1, 'plain', 'xy'), ['desk a', 'keep', 'desk b', 'link a b 3'], None, 7],
        )


class StageTwelveExamples(unittest.TestCase):
    def test_console(self):
        from clipforms.hallconsole import HallConsole
        console = HallConsole()
        lines = ["desk a", "begin a pad : form star bold * escape !\nmaker m from star to plain cost 1", "open 1 star : x*y*"]
        begun = [console.execute(line) for line in lines]
        self.assertEqual(
            [begun, [console.execute(line) for line in ("copy 1 lines 0 0 : all", "offered 1", "end 1", "log", "deed 2")], len(console.journal())],
            [['ok', '1', '1'], ['1', 'a/plain nothing, a/star bold', '1 a/plain, 1 a/star', '1 a/m a/plain nothing', 'open 1 star : x*y*'], 5],
        )
