"""Points 2 and 16: programs, forms, makers and documents of a desk, their numbers, limits and refusals."""

import copy
import unittest

from clipforms.desk import Desk
from clipforms.errors import NameTaken, NoDocument, NoForm, NoMaker, NoProgram, SyntaxProblem, TooMany
from clipforms.forms import read
from tests.samples import NO, PLAIN, inside, objects_of_all_kinds

STAR = ("star", "", "", "*", "", "", "", "", "!")
NO_NUMBERS = [
    0, -1, 2, 13, 10 ** 30 - 1, True, False, None, "", "1", "pad", (), (1,), [], [1], {}, {1: 1}, ("star",), (1, (2,)),
]


def form_number(number):
    """A form, another one for each number."""
    return (f"f{number}", "", "", "*", "", "", "", "", "!")


def maker_number(number):
    """A maker, another one for each number."""
    return (f"m{number}", "star", "plain", number)


class Case(unittest.TestCase):
    def setUp(self):
        self.desk = Desk()

    def refuse(self, error, action, *arguments):
        before = inside(self.desk)
        with self.assertRaises(error) as caught:
            action(*arguments)
        self.assertEqual(inside(self.desk), before)
        return caught.exception

    def refuse_more(self, limit, action, *arguments):
        self.assertEqual(self.refuse(TooMany, action, *arguments).limit, limit)

    def begun(self):
        """A desk with one program, one more form and one maker."""
        program = self.desk.begin("pad")
        self.desk.bring(program, STAR)
        self.desk.supply(program, ("a", "star", "plain", 1))
        return program


class Empty(Case):
    def test_lists(self):
        desk = self.desk
        self.assertEqual([desk.living(), desk.supplied(), desk.open_documents(), desk.log(), desk.history()], [[]] * 5)
        self.assertEqual(desk.known_forms(), [PLAIN])

    def test_two_desks_share_nothing(self):
        other = inside(Desk())
        self.desk.open_document(self.begun(), "plain", "a")
        self.assertEqual(inside(Desk()), other)


class Programs(Case):
    def test_numbers_and_names(self):
        self.assertEqual([self.desk.begin(name) for name in ("pad", "pad", "z", "a")], [1, 2, 3, 4])
        self.assertEqual(self.desk.living(), [(1, "pad"), (2, "pad"), (3, "z"), (4, "a")])

    def test_numbers_never_come_again(self):
        for name in ("a", "b", "c"):
            self.desk.begin(name)
        self.desk.end(3)
        self.desk.crash(1)
        self.assertEqual(self.desk.living(), [(2, "b")])
        self.desk.end(2)
        self.assertEqual(self.desk.living(), [])
        self.assertEqual(self.desk.begin("d"), 4)
        self.assertEqual(self.desk.living(), [(4, "d")])

    def test_names_that_are_no_words(self):
        for name in objects_of_all_kinds() + ["Pad", "pad-", "abcdefghijklm", b"pad"]:
            with self.subTest(repr(name)[:40]):
                self.refuse(NoProgram, self.desk.begin, name)
        for name in ("a", "0", "abcdefghijkl", "12"):
            self.desk.begin(name)

    def test_twelve(self):
        for number in range(1, 13):
            self.assertEqual(self.desk.begin("pad"), number)
        self.refuse_more(12, self.desk.begin, "pad")
        self.refuse(NoProgram, self.desk.begin, "Pad")
        self.desk.end(5)
        self.assertEqual(self.desk.begin("pad"), 13)
        self.refuse_more(12, self.desk.begin, "pad")
        self.desk.crash(13)
        self.assertEqual(self.desk.begin("pen"), 14)
        self.assertEqual([number for number, _ in self.desk.living()], [1, 2, 3, 4, 6, 7, 8, 9, 10, 11, 12, 14])

    def test_what_is_no_living_program(self):
        self.begun()
        self.desk.begin("z")
        self.desk.end(2)
        desk = self.desk
        for thing in NO_NUMBERS:
            with self.subTest(repr(thing)):
                self.refuse(NoProgram, desk.end, thing)
                self.refuse(NoProgram, desk.crash, thing)
                self.refuse(NoProgram, desk.bring, thing, ("b",))
                self.refuse(NoProgram, desk.supply, thing, ("b",))
                self.refuse(NoProgram, desk.open_document, thing, "none", "\t")

    def test_makers_and_documents_go_and_forms_stay(self):
        for word, answer in (("end", []), ("crash", None)):
            self.desk = Desk()
            action = getattr(self.desk, word)
            one, other = self.begun(), self.desk.begin("pen")
            self.desk.supply(other, ("b", "plain", "star", 2))
            self.desk.supply(one, ("c", "plain", "star", 3))
            documents = [self.desk.open_document(program, "star", "a") for program in (one, other, one)]
            self.assertEqual(action(one), answer)
            self.assertEqual(self.desk.living(), [(other, "pen")])
            self.assertEqual(self.desk.supplied(), [(other, ("b", "plain", "star", 2))])
            self.assertEqual(self.desk.open_documents(), [(documents[1], other, "star")])
            self.assertEqual(self.desk.known_forms(), [PLAIN, STAR])
            self.assertEqual(self.desk.text(documents[1]), "a")
            self.refuse(NoDocument, self.desk.text, documents[0])
            self.refuse(NoProgram, action, one)
            action(other)
            self.assertEqual([self.desk.supplied(), self.desk.open_documents()], [[], []])


class Forms(Case):
    def test_ascending(self):
        program = self.desk.begin("pad")
        forms = [(name, "", "", "*", "", "", "", "", "!") for name in ("z", "a", "plan", "q9", "plaina")]
        for form in forms:
            self.assertIsNone(self.desk.bring(program, form))
        self.assertEqual(self.desk.known_forms(), sorted(forms + [PLAIN]))

    def test_what_is_no_form(self):
        program = self.begun()
        for thing in objects_of_all_kinds() + [list(STAR), STAR[:8], STAR + ("",), ("star", "*") + STAR[2:]]:
            with self.subTest(repr(thing)[:40]):
                self.refuse(NoForm, self.desk.bring, program, thing)

    def test_names_that_are_taken(self):
        program = self.begun()
        other = self.desk.begin("pen")
        for name in ("star", "plain"):
            form = (name, "", "", "", "_", "", "", "", "!")
            for owner in (program, other):
                self.refuse(NameTaken, self.desk.bring, owner, form)
        self.refuse(NameTaken, self.desk.bring, program, ("star",) + PLAIN[1:])

    def test_a_form_that_is_known_already(self):
        program = self.begun()
        before = inside(self.desk)
        self.desk.bring(program, STAR)
        self.desk.bring(program, PLAIN)
        self.assertEqual(inside(self.desk), before)

    def test_for_ever(self):
        program = self.begun()
        self.desk.end(program)
        other = self.desk.begin("pen")
        self.refuse(NameTaken, self.desk.bring, other, ("star",) + PLAIN[1:])
        self.assertEqual(self.desk.text(self.desk.open_document(other, "star", "*a*")), "*a*")

    def test_twenty(self):
        program = self.desk.begin("pad")
        for number in range(19):
            self.desk.bring(program, form_number(number))
        self.assertEqual(len(self.desk.known_forms()), 20)
        self.refuse_more(20, self.desk.bring, program, form_number(19))
        self.refuse(NameTaken, self.desk.bring, program, ("f7",) + PLAIN[1:])
        self.refuse(NoForm, self.desk.bring, program, ("f7",))
        self.desk.bring(program, form_number(18))
        self.desk.bring(program, PLAIN)
        self.desk.end(program)
        self.refuse_more(20, self.desk.bring, self.desk.begin("pad"), form_number(19))


class Makers(Case):
    def test_in_the_order_they_were_given(self):
        one, other = self.begun(), self.desk.begin("pen")
        makers = [
            (other, ("z", "plain", "star", 0)), (one, ("b", "star", "plain", 1000)), (other, ("0", "star", "plain", 7)),
        ]
        for program, maker in makers:
            self.assertIsNone(self.desk.supply(program, maker))
        self.assertEqual(self.desk.supplied(), [(one, ("a", "star", "plain", 1))] + makers)

    def test_what_is_no_maker(self):
        program = self.begun()
        for thing in objects_of_all_kinds() + [
            ("b", "star", "plain", 1001), ("b", "star", "plain", -1), ("b", "star", "plain", True),
            ("b", "star", "plain", "1"), ("b", "star", "plain"), ("b", "star", "plain", 1, 1),
            ("b", "star", "star", 1), ("b", "star", "dot", 1), ("b", "dot", "plain", 1), ("b", STAR, "plain", 1),
            ("B", "star", "plain", 1), ("", "star", "plain", 1), (1, "star", "plain", 1), ["b", "star", "plain", 1],
            ("b", ["star"], "plain", 1), ("b", {}, "plain", 1),
        ]:
            with self.subTest(repr(thing)[:40]):
                self.refuse(NoMaker, self.desk.supply, program, thing)

    def test_names_that_are_taken(self):
        one, other = self.begun(), self.desk.begin("pen")
        for program in (one, other):
            self.refuse(NameTaken, self.desk.supply, program, ("a", "star", "plain", 1))
            self.refuse(NameTaken, self.desk.supply, program, ("a", "plain", "star", 2))
        self.refuse(NoMaker, self.desk.supply, one, ("a", "plain", "plain", 2))
        self.desk.end(one)
        self.desk.supply(other, ("a", "plain", "star", 2))
        self.assertEqual(self.desk.supplied(), [(other, ("a", "plain", "star", 2))])

    def test_thirty(self):
        one, other = self.begun(), self.desk.begin("pen")
        for number in range(29):
            self.desk.supply(one if number % 2 else other, maker_number(number))
        self.assertEqual(len(self.desk.supplied()), 30)
        self.refuse_more(30, self.desk.supply, one, maker_number(29))
        self.refuse(NameTaken, self.desk.supply, one, maker_number(28))
        self.refuse(NoMaker, self.desk.supply, one, ("a", "star", "none", 1))
        self.desk.end(one)
        self.desk.supply(other, maker_number(29))
        self.assertEqual([maker for _, maker in self.desk.supplied()], [maker_number(n) for n in range(0, 30, 2)] +
                         [maker_number(29)])


class Documents(Case):
    def test_numbers_texts_and_contents(self):
        program = self.begun()
        other = self.desk.begin("pen")
        for number, (owner, form, text) in enumerate(
            [(other, "plain", "a *b*\nc"), (program, "star", "a *b*"), (program, "plain", "")], 1,
        ):
            self.assertEqual(self.desk.open_document(owner, form, text), number)
            self.assertEqual(self.desk.text(number), text)
            self.assertEqual(self.desk.content_of(number), read(STAR if form == "star" else PLAIN, text))
        self.assertEqual(self.desk.open_documents(), [(1, other, "plain"), (2, program, "star"), (3, program, "plain")])
        self.assertIsNone(self.desk.close(2))
        self.assertEqual(self.desk.open_documents(), [(1, other, "plain"), (3, program, "plain")])
        self.assertEqual(self.desk.open_document(program, "plain", "x"), 4)

    def test_texts_are_written_anew(self):
        document = self.desk.open_document(self.begun(), "star", "a***b*!*")
        self.assertEqual(self.desk.text(document), "a*b*!*")

    def test_twelve(self):
        program = self.begun()
        for number in range(1, 13):
            self.assertEqual(self.desk.open_document(program, "star", "a"), number)
        self.refuse_more(12, self.desk.open_document, program, "star", "a")
        self.refuse(SyntaxProblem, self.desk.open_document, program, "star", "*")
        self.refuse(NoForm, self.desk.open_document, program, "dot", "*")
        self.desk.close(7)
        self.assertEqual(self.desk.open_document(program, "star", "a"), 13)
        self.refuse_more(12, self.desk.open_document, program, "star", "a")

    def test_names_of_no_known_form(self):
        program = self.begun()
        for thing in objects_of_all_kinds() + ["dot", "Star", STAR, PLAIN, ["star"], ("star",), {"star": 1}]:
            with self.subTest(repr(thing)[:40]):
                self.refuse(NoForm, self.desk.open_document, program, thing, "*")

    def test_problems(self):
        program = self.begun()
        for text, line, column in [
            ("*", 1, 2), ("a\n!b", 2, 2), ("x" * 492, 1, 492), ("a\n" * 200, 201, 1), ("\t", 1, 1),
        ]:
            problem = self.refuse(SyntaxProblem, self.desk.open_document, program, "star", text)
            self.assertEqual((problem.line, problem.column), (line, column))

    def test_what_is_no_open_document(self):
        program = self.begun()
        document = self.desk.open_document(program, "plain", "a")
        closed = self.desk.open_document(program, "plain", "a")
        self.desk.close(closed)
        desk = self.desk
        for thing in NO_NUMBERS + [closed]:
            with self.subTest(repr(thing)):
                for action in (desk.close, desk.content_of, desk.text, desk.undo, desk.redo):
                    self.refuse(NoDocument, action, thing)
                self.refuse(NoDocument, desk.edit, thing, ("glue", 9))
                self.refuse(NoDocument, desk.copy, thing, ("lines", 9, 9), ("none",), False)
                self.refuse(NoDocument, desk.drag, thing, ("lines", 9, 9), document, (9, 9, 9), True)
                self.refuse(NoDocument, desk.drag, document, ("lines", 9, 9), thing, (9, 9, 9), False)

    def test_a_closed_document_leaves_the_others(self):
        program = self.begun()
        one, other = [self.desk.open_document(program, "plain", text) for text in ("a", "b")]
        self.desk.close(one)
        self.desk.edit(other, ("enter", 0, 0, 0, "x", NO))
        self.assertEqual(self.desk.text(other), "xb")


class Lists(Case):
    def test_changing_a_returned_list_changes_nothing(self):
        desk = self.desk
        program = self.begun()
        document = desk.open_document(program, "star", "*a*")
        entry = desk.copy(document, ("lines", 0, 0), None, False)
        desk.ask(entry, "plain")
        before = inside(desk)
        tellers = [
            desk.living, desk.known_forms, desk.supplied, desk.open_documents, desk.log, desk.history,
            lambda: desk.offered(entry), lambda: desk.can_ask(entry),
        ]
        for teller in tellers:
            told = teller()
            self.assertIsInstance(told, list)
            wanted = copy.deepcopy(told)
            told.append(("x", "y"))
            told.reverse()
            self.assertEqual(teller(), wanted)
            told.clear()
        self.assertEqual(inside(desk), before)
        told = desk.end(program)
        self.assertIsInstance(told, list)

    def test_what_is_passed_may_be_changed_afterwards(self):
        desk = self.desk
        program = self.begun()
        document = desk.open_document(program, "star", "*a*")
        entry = desk.copy(document, ("lines", 0, 0), None, False)
        forms = ["star", "plain"]
        self.assertEqual(desk.paste(entry, forms, document, (0, 0, 0)), "star")
        self.assertEqual(forms, ["star", "plain"])
        before = inside(desk)
        forms.clear()
        self.assertEqual(inside(desk), before)
