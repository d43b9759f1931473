"""Points 2, 27 and 28: desks, links, programs and documents of a hall, their limits and refusals."""

import copy
import unittest

from clipforms.errors import (
    ClipError, NameTaken, NoDesk, NoDocument, NoEntry, NoForm, NoLink, NoPlace, NoProgram, NotCarried, SyntaxProblem,
    TooLarge, TooMany,
)
from clipforms.hall import Hall
from tests.samples import BOLD, NO, inside, objects_of_all_kinds

STAR = "form star bold * escape !"
NO_NAMES = [None, True, 0, 1, "", "A", "c", "ab", "a/plain", (), ("a",), ["a"], {"a": 1}, {}, b"a"]
NO_NUMBERS = [0, -1, 9, True, False, None, "", "1", "a", (), (1,), [1], {1: 1}, 10 ** 30 - 1]


class Case(unittest.TestCase):
    def setUp(self):
        self.hall = Hall()

    def refuse(self, error, action, *arguments):
        before = inside(self.hall)
        with self.assertRaises(error) as caught:
            action(*arguments)
        self.assertIsInstance(caught.exception, ClipError)
        self.assertEqual(inside(self.hall), before)
        return caught.exception

    def refuse_more(self, limit, action, *arguments):
        self.assertEqual(self.refuse(TooMany, action, *arguments).limit, limit)

    def set_up(self, *names):
        for name in names:
            self.assertIsNone(self.hall.set_up(name))

    def program(self, desk="a", text=""):
        return self.hall.begin(desk, "pad", text)


class Desks(Case):
    def test_empty(self):
        hall = self.hall
        told = [
            hall.desks(), hall.nodes(), hall.linked(), hall.living(), hall.all_makers(), hall.open_documents(),
            hall.all_entries(), hall.log(),
        ]
        self.assertEqual(told, [[]] * 8)

    def test_ascending(self):
        self.set_up("z", "a1", "a", "0")
        self.assertEqual(self.hall.desks(), ["0", "a", "a1", "z"])
        self.assertEqual(self.hall.nodes(), ["0/plain", "a/plain", "a1/plain", "z/plain"])

    def test_refused(self):
        for name in objects_of_all_kinds() + ["a/b", "abcdefghijklm", "A"]:
            self.refuse(NoDesk, self.hall.set_up, name)
        self.set_up("a")
        self.refuse(NameTaken, self.hall.set_up, "a")

    def test_four(self):
        self.set_up("a", "b", "c", "d")
        self.refuse_more(4, self.hall.set_up, "e")
        self.refuse(NameTaken, self.hall.set_up, "d")
        self.refuse(NoDesk, self.hall.set_up, "E")
        self.hall.clear("b")
        self.set_up("e")
        self.hall.fall("a")
        self.set_up("b")
        self.assertEqual(self.hall.desks(), ["b", "c", "d", "e"])
        self.refuse_more(4, self.hall.set_up, "f")

    def test_what_is_no_desk(self):
        self.set_up("a", "b")
        hall = self.hall
        for thing in NO_NAMES:
            with self.subTest(repr(thing)):
                self.refuse(NoDesk, hall.begin, thing, "Pad", "x")
                for one, other in ((thing, thing), ("a", thing), (thing, "a")):
                    self.refuse(NoDesk, hall.link, one, other, "x")
                for action in (hall.unlink, hall.cut):
                    self.refuse(NoDesk, action, thing, "a")
                    self.refuse(NoDesk, action, "a", thing)
                for action in (hall.clear, hall.fall):
                    self.refuse(NoDesk, action, thing)


class Links(Case):
    def setUp(self):
        super().setUp()
        self.set_up("d", "b", "c", "a")

    def test_ascending_with_the_lesser_desk_first(self):
        for one, other, cost in (("d", "a", 0), ("b", "c", 1000), ("b", "a", 7), ("c", "d", 7)):
            self.assertIsNone(self.hall.link(one, other, cost))
        self.assertEqual(self.hall.linked(), [("a", "b", 7), ("a", "d", 0), ("b", "c", 1000), ("c", "d", 7)])

    def test_refused(self):
        self.refuse(NoLink, self.hall.link, "a", "a", 1)
        self.refuse(NoLink, self.hall.link, "a", "a", "x")
        for cost in objects_of_all_kinds()[2:] + [-1, 1001, True, False, None, "1"]:
            with self.subTest(repr(cost)[:30]):
                self.refuse(NoLink, self.hall.link, "a", "b", cost)
        self.hall.link("b", "a", 5)
        for one, other in (("a", "b"), ("b", "a")):
            self.refuse(NameTaken, self.hall.link, one, other, 5)
            self.refuse(NoLink, self.hall.link, one, other, 1001)

    def test_five(self):
        for one, other in (("a", "b"), ("c", "a"), ("a", "d"), ("b", "c"), ("d", "b")):
            self.hall.link(one, other, 1)
        self.refuse_more(5, self.hall.link, "c", "d", 1)
        self.refuse(NameTaken, self.hall.link, "b", "d", 1)
        self.refuse(NoLink, self.hall.link, "c", "d", -1)
        self.hall.cut("b", "d")
        self.hall.link("c", "d", 1)
        self.refuse_more(5, self.hall.link, "b", "d", 1)
        self.hall.unlink("d", "c")
        self.hall.link("b", "d", 3)
        self.assertEqual(self.hall.linked()[-1], ("b", "d", 3))

    def test_what_is_not_linked(self):
        self.hall.link("a", "b", 1)
        for action in (self.hall.unlink, self.hall.cut):
            for one, other in (("a", "c"), ("c", "b"), ("a", "a"), ("c", "c")):
                self.refuse(NoLink, action, one, other)

    def test_taken_away(self):
        self.hall.link("a", "b", 1)
        self.assertEqual(self.hall.unlink("b", "a"), [])
        self.assertEqual(self.hall.linked(), [])
        self.hall.link("a", "b", 2)
        self.assertIsNone(self.hall.cut("a", "b"))
        self.assertEqual(self.hall.linked(), [])

    def test_links_of_a_desk_that_goes(self):
        for action, desk in ((self.hall.clear, "a"), (self.hall.fall, "b")):
            for other in "acdb":
                if desk != other and other in self.hall.desks():
                    self.hall.link(desk, other, 1)
            self.hall.link("c", "d", 4)
            action(desk)
            self.assertEqual(self.hall.linked(), [("c", "d", 4)])
            self.hall.unlink("c", "d")


class Programs(Case):
    def setUp(self):
        super().setUp()
        self.set_up("a", "b")

    def test_numbers(self):
        self.assertEqual([self.program(desk) for desk in "aba"], [1, 2, 3])
        self.assertEqual(self.hall.living(), [(1, "a", "pad"), (2, "b", "pad"), (3, "a", "pad")])
        self.assertEqual(self.hall.end(2), [])
        self.assertIsNone(self.hall.crash(3))
        self.assertEqual([self.program("b"), self.hall.living()], [4, [(1, "a", "pad"), (4, "b", "pad")]])
        self.hall.clear("a")
        self.assertEqual(self.hall.living(), [(4, "b", "pad")])
        self.hall.fall("b")
        self.assertEqual(self.hall.living(), [])
        self.set_up("b")
        self.assertEqual(self.program("b"), 5)

    def test_refused_in_order(self):
        begin = self.hall.begin
        self.program("a", STAR + "\nmaker m from star to plain cost 1")
        for name in objects_of_all_kinds() + ["Pad", "a/b"]:
            self.refuse(NoProgram, begin, "a", name, "x")
        error = self.refuse(SyntaxProblem, begin, "a", "pad", "form star bold _ escape !\nmaker")
        self.assertEqual((error.line, error.column), (2, 6))
        self.refuse(NameTaken, begin, "a", "pad", "form star bold _ escape !")
        self.refuse(NameTaken, begin, "b", "pad", "form star bold _ escape !")
        self.refuse(NameTaken, begin, "a", "pad", "form x\nmaker m from x to plain cost 2")
        self.assertEqual(self.hall.begin("b", "pad", "form x\nmaker m from x to plain cost 2"), 2)

    def test_forms_that_the_desk_does_not_know(self):
        self.program("a", STAR)
        self.refuse(SyntaxProblem, self.hall.begin, "b", "pad", "maker m from star to plain cost 1")
        self.assertEqual(self.program("a", "maker m from star to plain cost 1"), 2)
        self.assertEqual(self.program("b", STAR + "\nmaker m from star to plain cost 1"), 3)
        self.assertEqual(self.hall.nodes(), ["a/plain", "a/star", "b/plain", "b/star"])

    def test_signs_of_a_name_never_change(self):
        program = self.program("a", STAR)
        self.hall.end(program)
        self.refuse(NameTaken, self.hall.begin, "b", "pad", "form star bold _ escape !")
        self.hall.fall("a")
        self.refuse(NameTaken, self.hall.begin, "b", "pad", "form star")
        self.set_up("a")
        self.assertEqual(self.hall.nodes(), ["a/plain", "b/plain"])
        self.refuse(NameTaken, self.hall.begin, "a", "pad", "form star cell * escape !")
        self.refuse(SyntaxProblem, self.hall.begin, "a", "pad", "maker m from star to plain cost 1")
        self.program("a", STAR)
        self.assertEqual(self.hall.nodes(), ["a/plain", "a/star", "b/plain"])

    def test_six_forms(self):
        self.program("a", "\n".join(f"form f{number}" for number in range(5)))
        self.refuse_more(6, self.hall.begin, "a", "pad", "form g")
        self.program("a", "form f4\nform f0")
        self.refuse_more(6, self.hall.begin, "b", "pad", "\n".join(f"form f{number}" for number in range(6)))
        self.assertEqual(self.program("b", "form g"), 3)
        self.hall.end(1)
        self.refuse_more(6, self.hall.begin, "a", "pad", "form g")
        self.hall.clear("a")
        self.set_up("a")
        self.assertEqual(self.program("a", "form g"), 4)

    def test_twenty_makers(self):
        makers = [f"maker m{number} from star to plain cost 1" for number in range(21)]
        self.refuse_more(20, self.hall.begin, "a", "pad", "\n".join([STAR] + makers))
        self.program("a", "\n".join([STAR] + makers[:12]))
        self.program("b", "\n".join([STAR] + makers[:7]))
        self.refuse_more(20, self.hall.begin, "a", "pad", "\n".join(makers[12:14]))
        self.refuse(NameTaken, self.hall.begin, "a", "pad", "\n".join(makers[11:14]))
        self.hall.link("a", "b", 3)
        self.program("a", makers[12])
        self.refuse_more(20, self.hall.begin, "b", "pad", makers[12])
        self.assertEqual(self.program("b"), 4)
        self.hall.crash(2)
        self.assertEqual(self.program("b", "\n".join(makers[:7])), 5)

    def test_twelve(self):
        for number in range(1, 13):
            self.assertEqual(self.program("ab"[number % 2]), number)
        self.refuse_more(12, self.hall.begin, "a", "pad", "")
        self.refuse_more(6, self.hall.begin, "a", "pad", "\n".join(f"form f{number}" for number in range(6)))
        makers = [STAR] + [f"maker m{number} from star to plain cost 1" for number in range(21)]
        self.refuse_more(20, self.hall.begin, "a", "pad", "\n".join(makers))
        self.refuse(SyntaxProblem, self.hall.begin, "a", "pad", "x")
        self.hall.end(3)
        self.assertEqual(self.program(), 13)

    def test_what_is_no_living_program(self):
        self.program()
        self.hall.end(self.program())
        for thing in NO_NUMBERS + [2]:
            with self.subTest(repr(thing)):
                self.refuse(NoProgram, self.hall.end, thing)
                self.refuse(NoProgram, self.hall.crash, thing)
                self.refuse(NoProgram, self.hall.open_document, thing, "none", "\t")


class Makers(Case):
    def test_those_of_programs_as_they_came_and_then_the_carriages_ascending(self):
        self.set_up("b", "a")
        self.program("b", STAR + "\nmaker z from star to plain cost 3\nmaker a from plain to star cost 4")
        self.program("a", STAR + "\nform other\nmaker m from other to star cost 0")
        self.assertEqual(self.hall.all_makers(), [
            ("b/z", "b/star", "b/plain", 3), ("b/a", "b/plain", "b/star", 4), ("a/m", "a/other", "a/star", 0),
        ])
        self.hall.link("b", "a", 5)
        self.assertEqual(self.hall.all_makers()[3:], [
            ("a>b/plain", "a/plain", "b/plain", 5), ("a>b/star", "a/star", "b/star", 5),
            ("b>a/plain", "b/plain", "a/plain", 5), ("b>a/star", "b/star", "a/star", 5),
        ])
        self.program("b", "form other")
        self.assertEqual(self.hall.all_makers()[3:], [
            ("a>b/other", "a/other", "b/other", 5), ("a>b/plain", "a/plain", "b/plain", 5),
            ("a>b/star", "a/star", "b/star", 5), ("b>a/other", "b/other", "a/other", 5),
            ("b>a/plain", "b/plain", "a/plain", 5), ("b>a/star", "b/star", "a/star", 5),
        ])
        self.hall.end(1)
        self.assertEqual(self.hall.all_makers()[0], ("a/m", "a/other", "a/star", 0))
        self.assertEqual(len(self.hall.all_makers()), 7)
        self.hall.cut("a", "b")
        self.assertEqual(self.hall.all_makers(), [("a/m", "a/other", "a/star", 0)])

    def test_links_of_several_desks(self):
        self.set_up("a", "b", "c")
        self.hall.link("c", "b", 1)
        self.hall.link("a", "c", 2)
        self.assertEqual(self.hall.all_makers(), [
            ("a>c/plain", "a/plain", "c/plain", 2), ("b>c/plain", "b/plain", "c/plain", 1),
            ("c>a/plain", "c/plain", "a/plain", 2), ("c>b/plain", "c/plain", "b/plain", 1),
        ])
        self.hall.fall("c")
        self.assertEqual(self.hall.all_makers(), [])


class Documents(Case):
    def setUp(self):
        super().setUp()
        self.set_up("a", "b")
        self.one, self.other = self.program("a", STAR), self.program("b")

    def test_open_text_edit_and_close(self):
        hall = self.hall
        self.assertEqual(hall.open_document(self.one, "star", "a*b*"), 1)
        self.assertEqual(hall.open_document(self.other, "plain", "x\ny"), 2)
        self.assertEqual(hall.open_documents(), [(1, 1, "star"), (2, 2, "plain")])
        self.assertIsNone(hall.edit(1, ("enter", 0, 0, 0, "c", BOLD)))
        self.assertIsNone(hall.edit(2, ("insert", 0, ((0, ((("q", NO),),)),))))
        self.assertEqual([hall.text(1), hall.text(2)], ["*c*a*b*", "q\nx\ny"])
        self.assertIsNone(hall.close(1))
        self.assertEqual(hall.open_documents(), [(2, 2, "plain")])
        self.assertEqual(hall.open_document(self.one, "plain", ""), 3)

    def test_they_close_with_their_programs_and_desks(self):
        for thing, word in ((1, "end"), (1, "crash"), ("a", "clear"), ("a", "fall")):
            self.setUp()
            self.hall.open_document(self.one, "star", "a")
            self.hall.open_document(self.other, "plain", "a")
            getattr(self.hall, word)(thing)
            self.assertEqual(self.hall.open_documents(), [(2, 2, "plain")])
            self.refuse(NoDocument, self.hall.text, 1)

    def test_refused(self):
        hall = self.hall
        for thing in objects_of_all_kinds() + ["none", "a/star", "a/plain", ["star"], ("star",)]:
            self.refuse(NoForm, hall.open_document, self.one, thing, "*")
        self.refuse(NoForm, hall.open_document, self.other, "star", "*")
        self.refuse(SyntaxProblem, hall.open_document, self.one, "star", "*")
        hall.open_document(self.one, "plain", "x" * 491)
        self.refuse(NoPlace, hall.edit, 1, ("enter", 1, 0, 0, "x", BOLD))
        self.refuse(TooLarge, hall.edit, 1, ("enter", 0, 0, 0, "x", BOLD))
        self.refuse(NotCarried, hall.edit, 1, ("mark", 0, 0, 0, 1, "bold", True))

    def test_twelve(self):
        for number in range(1, 13):
            self.assertEqual(self.hall.open_document(1 + number % 2, "plain", ""), number)
        self.refuse_more(12, self.hall.open_document, self.one, "plain", "")
        self.refuse(SyntaxProblem, self.hall.open_document, self.one, "plain", "\t")
        self.refuse(NoForm, self.hall.open_document, self.other, "star", "\t")
        self.hall.close(7)
        self.assertEqual(self.hall.open_document(self.one, "plain", ""), 13)

    def test_what_is_no_open_document(self):
        hall = self.hall
        hall.open_document(self.one, "star", "a")
        hall.close(hall.open_document(self.one, "star", "a"))
        for thing in NO_NUMBERS + [2]:
            with self.subTest(repr(thing)):
                for action in (hall.text, hall.close):
                    self.refuse(NoDocument, action, thing)
                self.refuse(NoDocument, hall.edit, thing, ("glue", 5))
                self.refuse(NoDocument, hall.copy, thing, ("lines", 5, 5), ("none",))


class Lists(Case):
    def test_changing_a_returned_list_changes_nothing(self):
        hall = self.hall
        self.set_up("a", "b")
        hall.link("a", "b", 1)
        document = hall.open_document(self.program("a", STAR + "\nmaker m from star to plain cost 1"), "star", "*a*")
        entry = hall.copy(document, ("lines", 0, 0), None)
        hall.ask(entry, "b/plain")
        before = inside(hall)
        for teller in (
            hall.desks, hall.nodes, hall.linked, hall.living, hall.all_makers, hall.open_documents, hall.all_entries,
            hall.log, lambda: hall.offered(entry), lambda: hall.can_ask(entry),
        ):
            told = teller()
            self.assertIsInstance(told, list)
            self.assertGreater(len(told), 0)
            wanted = copy.deepcopy(told)
            told.append("x")
            told.reverse()
            self.assertEqual(teller(), wanted)
        self.assertEqual(inside(hall), before)

    def test_what_is_no_entry(self):
        hall = self.hall
        self.set_up("a")
        document = hall.open_document(self.program(), "plain", "a")
        hall.drop(hall.copy(document, ("lines", 0, 0), None))
        hall.copy(document, ("lines", 0, 0), None)
        for thing in NO_NUMBERS + [1]:
            with self.subTest(repr(thing)):
                for action in (hall.drop, hall.offered, hall.can_ask):
                    self.refuse(NoEntry, action, thing)
                self.refuse(NoEntry, hall.ask, thing, "none")
