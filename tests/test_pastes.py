"""Points 2 and 24: pastes, drags and moves."""

import unittest

from clipforms.contents import keep
from clipforms.desk import Desk
from clipforms.errors import Gone, NoDocument, NoEntry, NoPlace, NotOffered, TooLarge
from clipforms.forms import carried, read
from tests.samples import BOLD, NO, cell, forms_named, inside, one_line

FORMS = forms_named("full", "star", "dot", "cell", "page", "tree", "note")
MAKERS = [
    ("a", "full", "star", 1), ("b", "full", "cell", 1), ("c", "full", "page", 1), ("d", "full", "plain", 1),
    ("e", "full", "dot", 1), ("f", "full", "tree", 1), ("g", "full", "note", 1),
]
TEXT = "[w:a]*b*_c_|d\n>e"


class Case(unittest.TestCase):
    def setUp(self):
        self.desk = Desk()
        self.program = self.desk.begin("pad")
        for form in FORMS.values():
            self.desk.bring(self.program, form)
        for maker in MAKERS:
            self.desk.supply(self.program, maker)
        self.rich = self.opened(TEXT, "full")

    def opened(self, text, form="plain"):
        return self.desk.open_document(self.program, form, text)

    def copy(self, offer=None, document=None, selection=("lines", 0, 1)):
        return self.desk.copy(document or self.rich, selection, offer, False)

    def refuse(self, error, action, *arguments):
        before = inside(self.desk)
        with self.assertRaises(error) as caught:
            action(*arguments)
        self.assertEqual(inside(self.desk), before)
        return caught.exception


class Taken(Case):
    """Which form of the list a paste takes."""

    def check(self, target, forms, wanted, offer=None):
        self.assertEqual(self.desk.paste(self.copy(offer), forms, self.opened("", target), (0, 0, 0)), wanted)

    def test_the_greatest_in_the_order_of_worth(self):
        self.check("full", ["plain", "star", "cell", "page", "full"], "full")
        self.check("full", ["plain", "star", "cell", "page"], "page")
        self.check("full", ["star", "plain", "cell"], "cell")
        self.check("full", ["note", "cell"], "cell")
        self.check("full", ["star", "tree", "plain"], "tree")
        self.check("full", ["tree", "note"], "note")
        self.check("full", ["note", "tree"], "note")

    def test_without_what_the_document_does_not_carry(self):
        self.check("star", ["cell", "page"], "page")
        self.check("star", ["cell", "tree", "star"], "star")
        self.check("cell", ["star", "page", "full"], "page")
        self.check("tree", ["page", "note"], "note")
        self.check("note", ["cell", "star", "tree"], "tree")

    def test_the_first_of_several(self):
        self.check("plain", ["star", "full", "plain"], "star")
        self.check("plain", ["plain", "full"], "plain")
        self.check("full", ["dot", "star"], "dot")
        self.check("full", ["star", "dot"], "star")
        self.check("star", ["page", "full", "star"], "page")
        self.check("star", ["cell", "tree"], "cell")

    def test_one_that_is_offered(self):
        self.check("full", ["full", "none", "star", "plain"], "star", ("plain", "star"))
        self.check("full", ["page", "plain"], "plain", ("plain", "star"))
        self.check("full", ["star", "star"], "star", ("plain", "star"))

    def test_what_is_kept_counts_and_not_what_the_form_carries(self):
        bold = self.opened("*b*", "full")
        entry = self.copy(("plain", "page", "dot"), bold, ("lines", 0, 0))
        self.assertEqual(self.desk.paste(entry, ["plain", "dot", "page"], self.opened("", "full"), (0, 0, 0)), "dot")

    def test_of_all_lists_of_two(self):
        ranks = ("full", "page", "cell", "note", "tree")
        for at, better in enumerate(ranks):
            for worse in ranks[at + 1:]:
                self.setUp()
                self.check("full", [worse, better], better)
                self.check("full", [better, worse], better)


class Pastes(Case):
    def test_contents(self):
        content = read(FORMS["full"], TEXT)
        for target in FORMS:
            for form in FORMS:
                self.setUp()
                document = self.opened("", target)
                self.desk.paste(self.copy(), [form], document, (0, 0, 0))
                features = [one for one in carried(FORMS[form]) if one in carried(FORMS[target])]
                self.assertEqual(self.desk.content_of(document), one_line(cell()) + keep(content, tuple(features)))

    def test_it_is_asked(self):
        entry = self.copy()
        self.desk.paste(entry, ["star"], self.opened(""), (0, 0, 0))
        self.assertEqual(self.desk.log(), [(entry, "a", "star", ("bold",))])
        self.desk.paste(entry, ["star"], self.opened(""), (0, 0, 0))
        self.desk.paste(entry, ["full"], self.opened(""), (0, 0, 0))
        self.assertEqual(len(self.desk.log()), 1)

    def test_one_line_with_one_cell_comes_into_the_cell(self):
        entry = self.copy(None, self.opened("x*y*", "full"), ("lines", 0, 0))
        document = self.opened("a*b*|c\nd", "full")
        self.desk.paste(entry, ["full"], document, (0, 0, 2))
        self.assertEqual(self.desk.text(document), "a*b*x*y*|c\nd")
        self.desk.paste(entry, ["full"], document, (1, 0, 0))
        self.assertEqual(self.desk.text(document), "a*b*x*y*|c\nx*y*d")
        self.desk.paste(entry, ["star"], document, (0, 1, 1))
        self.assertEqual(self.desk.text(document), "a*b*x*y*|cx*y*\nx*y*d")

    def test_several_cells_that_become_one(self):
        entry = self.copy(None, None, ("lines", 0, 0))
        document = self.opened("xy", "star")
        self.desk.paste(entry, ["full"], document, (0, 0, 1))
        self.assertEqual(self.desk.text(document), "xa*b*c dy")

    def test_lines_come_behind_the_line_with_its_depth(self):
        entry = self.copy()
        document = self.opened(">>x\ny", "full")
        self.desk.paste(entry, ["full"], document, (0, 0, 0))
        self.assertEqual(self.desk.text(document), ">>x\n>>[w:a]*b*_c_|d\n>>>e\ny")
        document = self.opened("x|y\nz", "cell")
        self.desk.paste(entry, ["full"], document, (0, 1, 1))
        self.assertEqual(self.desk.text(document), "x|y\nabc|d\ne\nz")

    def test_late_pastes(self):
        entry = self.copy(("star", "full"))
        self.desk.edit(self.rich, ("delete", 0, 1))
        self.desk.end(self.program)
        other = self.desk.begin("pen")
        document = self.desk.open_document(other, "full", "")
        self.assertEqual(self.desk.paste(entry, ["full"], document, (0, 0, 0)), "full")
        self.assertEqual(self.desk.text(document), "\n" + TEXT)

    def test_into_the_document_itself(self):
        document = self.opened("ab")
        entry = self.copy(None, document, ("range", 0, 0, 0, 2))
        self.assertEqual(self.desk.paste(entry, ["plain"], document, (0, 0, 1)), "plain")
        self.assertEqual(self.desk.text(document), "aabb")


class RefusedPastes(Case):
    def setUp(self):
        super().setUp()
        self.full = self.opened("x" * 491)
        self.entry = self.copy(("star", "plain"), self.rich, ("lines", 0, 0))

    def test_numbers_first(self):
        paste = self.desk.paste
        self.refuse(NoEntry, paste, 2, ["none"], 99, (9, 9, 9))
        self.refuse(NoEntry, paste, True, ["none"], 99, (9, 9, 9))
        for thing in (99, 0, None, True, "1", [1], {}):
            self.refuse(NoDocument, paste, self.entry, ["none"], thing, (9, 9, 9))

    def test_not_offered(self):
        for forms in ([], ["none"], ["full", "cell"]):
            self.refuse(NotOffered, self.desk.paste, self.entry, forms, self.full, (9, 9, 9))
        self.desk.crash(self.program)
        document = self.desk.open_document(self.desk.begin("pen"), "plain", "")
        self.refuse(NotOffered, self.desk.paste, self.entry, ["full"], document, (9, 9, 9))

    def test_no_place(self):
        for place in [(1, 0, 0), (-1, 0, 0), (0, 1, 0), (0, -1, 0), (0, 0, 492), (0, 0, -1)]:
            self.refuse(NoPlace, self.desk.paste, self.entry, ["star"], self.full, place)

    def test_no_place_ahead_of_gone_ahead_of_too_large(self):
        self.desk.crash(self.program)
        document = self.desk.open_document(self.desk.begin("pen"), "plain", "x" * 491)
        self.refuse(NoPlace, self.desk.paste, self.entry, ["star"], document, (1, 0, 0))
        error = self.refuse(Gone, self.desk.paste, self.entry, ["star"], document, (0, 0, 0))
        self.assertEqual(error.closed, ())

    def test_nothing_is_made_where_it_is_too_large(self):
        self.refuse(TooLarge, self.desk.paste, self.entry, ["star"], self.full, (0, 0, 0))
        self.assertEqual(self.desk.log(), [])
        self.assertEqual(self.desk.paste(self.entry, ["plain"], self.opened(""), (0, 0, 0)), "plain")

    def test_too_large(self):
        lines = self.opened("\n" * 199, "full")
        deep = self.opened(">" * 6, "full")
        entry = self.copy()
        self.refuse(TooLarge, self.desk.paste, entry, ["plain"], lines, (199, 0, 0))
        self.refuse(TooLarge, self.desk.paste, entry, ["full"], deep, (0, 0, 0))
        self.assertEqual(self.desk.paste(entry, ["page"], deep, (0, 0, 0)), "page")

    def test_the_one_that_is_taken_is_gone(self):
        self.desk.ask(self.entry, "plain")
        self.desk.crash(self.program)
        document = self.desk.open_document(self.desk.begin("pen"), "star", "")
        error = self.refuse(Gone, self.desk.paste, self.entry, ["plain", "star"], document, (0, 0, 0))
        self.assertEqual(error.closed, ())
        self.assertEqual(self.desk.paste(self.entry, ["plain"], document, (0, 0, 0)), "plain")


class Drags(Case):
    def check(self, selection, place, is_move, *texts):
        """Drag from the first document into the second one."""
        self.assertIsNone(self.desk.drag(self.one, selection, self.other, place, is_move))
        self.assertEqual([self.desk.text(document) for document in (self.one, self.other)], list(texts))

    def between(self, text, form, other_text, other_form):
        self.one, self.other = self.opened(text, form), self.opened(other_text, other_form)

    def test_within_a_document(self):
        document = self.opened("abcd\nef")
        self.desk.drag(document, ("range", 0, 0, 1, 3), document, (1, 0, 1), False)
        self.assertEqual(self.desk.text(document), "abcd\nebcf")
        self.desk.drag(document, ("range", 0, 0, 1, 3), document, (0, 0, 2), False)
        self.assertEqual(self.desk.text(document), "abbccd\nebcf")
        self.desk.drag(document, ("lines", 0, 1), document, (0, 0, 0), False)
        self.assertEqual(self.desk.text(document), "abbccd\nabbccd\nebcf\nebcf")

    def test_moves_within_a_document(self):
        document = self.opened("abcd\nef")
        self.desk.drag(document, ("range", 0, 0, 1, 3), document, (1, 0, 1), True)
        self.assertEqual(self.desk.text(document), "ad\nebcf")
        self.desk.drag(document, ("range", 1, 0, 0, 1), document, (1, 0, 4), True)
        self.assertEqual(self.desk.text(document), "ad\nbcfe")
        self.desk.drag(document, ("lines", 0, 0), document, (1, 0, 4), True)
        self.assertEqual(self.desk.text(document), "bcfead")

    def test_between_two(self):
        self.between("a*b*|c\n>d", "full", "x", "full")
        self.check(("range", 0, 0, 0, 2), (0, 0, 1), False, "a*b*|c\n>d", "xa*b*")
        self.check(("lines", 1, 1), (0, 0, 0), False, "a*b*|c\n>d", "dxa*b*")
        self.check(("lines", 0, 1), (0, 0, 0), False, "a*b*|c\n>d", "dxa*b*\na*b*|c\n>d")

    def test_moves_between_two(self):
        self.between("a*b*|c\n>d", "full", ">x", "full")
        self.check(("range", 0, 0, 0, 1), (0, 0, 1), True, "*b*|c\n>d", ">xa")
        self.check(("lines", 0, 0), (0, 0, 0), True, ">d", ">xa\n>*b*|c")
        self.check(("lines", 0, 0), (0, 0, 0), True, "", ">dxa\n>*b*|c")
        self.check(("lines", 0, 0), (0, 0, 0), True, "", ">dxa\n>*b*|c")

    def test_without_what_the_other_one_does_not_carry(self):
        self.between("a*b*|_c_\n>d", "full", "xy", "star")
        self.check(("lines", 0, 0), (0, 0, 1), True, ">d", "xa*b* cy")
        self.between("a*b*|_c_\n>d", "full", "xy", "cell")
        self.check(("lines", 0, 1), (0, 0, 1), False, "a*b*|_c_\n>d", "xy\nab|c\nd")

    def test_a_place_within_the_selection_is_refused_in_one_document_alone(self):
        self.between("abcd", "plain", "abcd", "plain")
        for place in ((0, 0, 2), (0, 0, 3)):
            self.refuse(NoPlace, self.desk.drag, self.one, ("range", 0, 0, 1, 4), self.one, place, True)
            self.refuse(NoPlace, self.desk.drag, self.one, ("lines", 0, 0), self.one, place, True)
        self.check(("range", 0, 0, 1, 4), (0, 0, 2), True, "a", "abbcdcd")
        self.desk.drag(self.other, ("lines", 0, 0), self.other, (0, 0, 1), False)
        self.assertEqual(self.desk.text(self.other), "aabbcdcdbbcdcd")

    def test_refused(self):
        self.between("abcd", "plain", "x" * 491, "plain")
        drag = self.desk.drag
        for is_move in (False, True):
            self.refuse(NoDocument, drag, 99, ("lines", 9, 9), 99, (9, 9, 9), is_move)
            self.refuse(NoDocument, drag, self.one, ("lines", 9, 9), None, (9, 9, 9), is_move)
            self.refuse(NoPlace, drag, self.one, ("lines", 0, 1), self.other, (0, 0, 0), is_move)
            self.refuse(NoPlace, drag, self.one, ("range", 0, 0, 2, 5), self.other, (0, 0, 0), is_move)
            self.refuse(NoPlace, drag, self.one, ("lines", 0, 0), self.other, (0, 0, 492), is_move)
            self.refuse(NoPlace, drag, self.one, ("lines", 0, 0), self.other, (1, 0, 0), is_move)
            self.refuse(TooLarge, drag, self.one, ("lines", 0, 0), self.other, (0, 0, 0), is_move)
        self.refuse(TooLarge, drag, self.other, ("lines", 0, 0), self.other, (0, 0, 0), False)
        self.refuse(NoPlace, drag, self.other, ("lines", 0, 0), self.other, (0, 0, 0), True)

    def test_too_deep(self):
        document = self.opened(">>>>a\n>>>b|\n>>c", "full")
        self.refuse(TooLarge, self.desk.drag, document, ("lines", 1, 1), document, (0, 0, 0), True)
        self.refuse(TooLarge, self.desk.drag, document, ("lines", 1, 2), document, (0, 0, 0), False)
        self.desk.drag(document, ("lines", 1, 1), document, (2, 0, 0), True)
        self.assertEqual(self.desk.text(document), ">>>>a\n>>c\n>>>>>b|")

    def test_nothing_is_asked_and_no_entry_is_made(self):
        self.between("ab", "plain", "", "plain")
        self.check(("lines", 0, 0), (0, 0, 0), True, "", "ab")
        self.assertEqual([self.desk.log(), self.desk.history()], [[], []])

    def test_moves_of_documents_of_other_programs(self):
        other = self.desk.begin("pen")
        document = self.desk.open_document(other, "full", "x")
        self.desk.drag(self.rich, ("range", 0, 0, 1, 2), document, (0, 0, 1), True)
        self.assertEqual(self.desk.content_of(document), one_line((("x", NO), ("b", BOLD))))
        self.assertEqual(self.desk.text(self.rich), "[w:a]_c_|d\n>e")
