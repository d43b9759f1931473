"""Points 2 and 15: undo and redo of edits, pastes, drags and moves."""

import unittest

from clipforms.desk import Desk
from clipforms.errors import EditedSince, NoDocument, NothingToUndo, NotCarried, NoPlace, TooLarge
from tests.samples import BOLD, NO, inside

STAR = ("star", "|", ">", "*", "", "", "", "", "!")
DOT = ("dot", "", "", ".", "", "", "", "", "!")


class Case(unittest.TestCase):
    def setUp(self):
        self.desk = Desk()
        self.program = self.desk.begin("pad")
        self.desk.bring(self.program, STAR)
        self.desk.bring(self.program, DOT)

    def opened(self, text, form="plain"):
        return self.desk.open_document(self.program, form, text)

    def enter(self, document, text):
        """Enter a text at the beginning of a document."""
        self.desk.edit(document, ("enter", 0, 0, 0, text, NO))

    def texts(self, *documents):
        return [self.desk.text(document) for document in documents]

    def refuse(self, error, action, document):
        before = inside(self.desk)
        with self.assertRaises(error):
            action(document)
        self.assertEqual(inside(self.desk), before)

    def undo_all(self, document):
        """Undo all that can be undone; return the texts on the way."""
        texts = []
        while True:
            try:
                self.desk.undo(document)
            except NothingToUndo:
                return texts
            texts.append(self.desk.text(document))

    def redo_all(self, document):
        texts = []
        while True:
            try:
                self.desk.redo(document)
            except NothingToUndo:
                return texts
            texts.append(self.desk.text(document))


class OneDocument(Case):
    def test_nothing_to_undo(self):
        document = self.opened("a")
        self.refuse(NothingToUndo, self.desk.undo, document)
        self.refuse(NothingToUndo, self.desk.redo, document)

    def test_there_and_back(self):
        document = self.opened("")
        for text in "cba":
            self.enter(document, text)
        self.assertEqual(self.undo_all(document), ["bc", "c", ""])
        self.assertEqual(self.redo_all(document), ["c", "bc", "abc"])
        self.assertEqual(self.undo_all(document), ["bc", "c", ""])

    def test_results(self):
        document = self.opened("a")
        self.assertIsNone(self.desk.edit(document, ("cut", 0, 0, 1)))
        self.assertIsNone(self.desk.undo(document))
        self.assertIsNone(self.desk.redo(document))

    def test_all_kinds_of_edits(self):
        document = self.opened(">a*b*|c\nd", "star")
        texts = self.texts(document)
        for edit in [
            ("enter", 0, 0, 1, "x", BOLD), ("erase", 0, 1, 0, 1), ("mark", 0, 0, 0, 1, "bold", True),
            ("cut", 0, 0, 1), ("glue", 0), ("depth", 0, 3), ("widen", 1, 0), ("narrow", 0, 1),
            ("insert", 1, ((2, ((),)),)), ("delete", 0, 2),
        ]:
            self.desk.edit(document, edit)
            self.assertNotEqual(self.desk.text(document), texts[-1])
            texts += self.texts(document)
        self.assertEqual(self.undo_all(document), texts[-2::-1])
        self.assertEqual(self.redo_all(document), texts[1:])

    def test_a_new_edit_ends_what_could_be_redone(self):
        document = self.opened("")
        for text in "cba":
            self.enter(document, text)
        self.desk.undo(document)
        self.desk.undo(document)
        self.enter(document, "x")
        self.refuse(NothingToUndo, self.desk.redo, document)
        self.assertEqual(self.undo_all(document), ["c", ""])
        self.assertEqual(self.redo_all(document), ["c", "xc"])

    def test_an_edit_that_changes_nothing_leaves_all_as_it_is(self):
        document = self.opened("a*b*", "star")
        self.enter(document, "x")
        self.desk.undo(document)
        before = inside(self.desk)
        for edit in [
            ("depth", 0, 0), ("insert", 0, ()), ("insert", 1, ()), ("mark", 0, 0, 1, 2, "bold", True),
            ("mark", 0, 0, 0, 1, "link", ""), ("mark", 0, 0, 0, 2, "slant", False),
        ]:
            self.desk.edit(document, edit)
            self.assertEqual(inside(self.desk), before)
        self.assertEqual(self.redo_all(document), ["xa*b*"])

    def test_a_refused_edit_leaves_all_as_it_is(self):
        document = self.opened("a")
        self.enter(document, "x")
        self.desk.undo(document)
        for error, edit in [
            (NoPlace, ("glue", 0)), (TooLarge, ("depth", 0, 7)), (NotCarried, ("widen", 0, 0)),
            (NotCarried, ("enter", 0, 0, 0, "x", BOLD)), (TooLarge, ("enter", 0, 0, 0, "x" * 491, NO)),
        ]:
            self.refuse(error, lambda number: self.desk.edit(number, edit), document)
        self.assertEqual(self.redo_all(document), ["xa"])

    def test_the_last_fifty(self):
        for many in (49, 50, 51, 73):
            with self.subTest(many):
                document = self.opened("")
                texts = [""]
                for number in range(many):
                    self.enter(document, str(number % 10))
                    texts += self.texts(document)
                self.assertEqual(self.undo_all(document), texts[-2::-1][:50])
                self.assertEqual(self.redo_all(document), texts[max(1, many - 49):])
                self.assertEqual(self.undo_all(document), texts[-2::-1][:50])
                self.desk.close(document)

    def test_edits_that_change_nothing_are_not_counted(self):
        document = self.opened("")
        self.enter(document, "x")
        for _ in range(60):
            self.desk.edit(document, ("depth", 0, 0))
        self.assertEqual(self.undo_all(document), [""])

    def test_fifty_behind_undone_ones(self):
        document = self.opened("")
        for _ in range(50):
            self.enter(document, "x")
        for _ in range(20):
            self.desk.undo(document)
        for _ in range(30):
            self.enter(document, "y")
        self.assertEqual(len(self.undo_all(document)), 50)
        self.assertEqual(self.desk.text(document), "x" * 10)

    def test_documents_do_not_touch_one_another(self):
        one, other = self.opened("a"), self.opened("b")
        self.enter(one, "x")
        self.refuse(NothingToUndo, self.desk.undo, other)
        self.enter(other, "y")
        self.desk.undo(one)
        self.assertEqual(self.texts(one, other), ["a", "yb"])

    def test_no_document(self):
        document = self.opened("a")
        self.enter(document, "x")
        self.desk.close(document)
        for thing in (document, 0, 2, True, None, "1", (1,), [1], {}):
            for action in (self.desk.undo, self.desk.redo):
                self.refuse(NoDocument, action, thing)


class PastesAndDrags(Case):
    def test_pastes(self):
        document = self.opened("ab\nc")
        entry = self.desk.copy(document, ("lines", 0, 1), None, False)
        self.desk.paste(entry, ["plain"], document, (0, 0, 1))
        self.assertEqual(self.texts(document), ["ab\nab\nc\nc"])
        self.assertEqual(self.undo_all(document), ["ab\nc"])
        self.assertEqual(self.redo_all(document), ["ab\nab\nc\nc"])

    def test_a_paste_that_changes_nothing(self):
        document, empty = self.opened("ab"), self.opened("")
        entry = self.desk.copy(empty, ("lines", 0, 0), None, False)
        self.enter(document, "x")
        self.desk.undo(document)
        self.desk.paste(entry, ["plain"], document, (0, 0, 1))
        self.assertEqual(self.redo_all(document), ["xab"])

    def test_drags_within_a_document(self):
        document = self.opened("abcd")
        self.desk.drag(document, ("range", 0, 0, 0, 2), document, (0, 0, 4), False)
        self.desk.drag(document, ("range", 0, 0, 0, 1), document, (0, 0, 3), True)
        self.desk.drag(document, ("range", 0, 0, 1, 3), document, (0, 0, 1), True)
        self.assertEqual(self.texts(document), ["bcadab"])
        self.assertEqual(self.undo_all(document), ["abcdab", "abcd"])
        self.assertEqual(self.redo_all(document), ["abcdab", "bcadab"])

    def test_drags_between_two_documents_are_edits_of_the_second_one(self):
        one, other = self.opened("abcd"), self.opened("x")
        self.desk.drag(one, ("range", 0, 0, 1, 3), other, (0, 0, 1), False)
        self.refuse(NothingToUndo, self.desk.undo, one)
        self.enter(one, "y")
        self.desk.undo(other)
        self.assertEqual(self.texts(one, other), ["yabcd", "x"])
        self.desk.close(one)
        self.desk.redo(other)
        self.assertEqual(self.texts(other), ["xbc"])


class Moves(Case):
    def setUp(self):
        super().setUp()
        self.one, self.other = self.opened("abcd"), self.opened("x")

    def move(self, one=None, other=None):
        self.desk.drag(one or self.one, ("range", 0, 0, 1, 3), other or self.other, (0, 0, 1), True)

    def both(self):
        return self.texts(self.one, self.other)

    def test_undone_and_redone_in_both(self):
        self.move()
        self.assertEqual(self.both(), ["ad", "xbc"])
        for first in (self.one, self.other):
            for second in (self.one, self.other):
                self.desk.undo(first)
                self.assertEqual(self.both(), ["abcd", "x"])
                for document in (self.one, self.other):
                    self.refuse(NothingToUndo, self.desk.undo, document)
                self.desk.redo(second)
                self.assertEqual(self.both(), ["ad", "xbc"])
                for document in (self.one, self.other):
                    self.refuse(NothingToUndo, self.desk.redo, document)

    def test_the_other_one_was_edited_since(self):
        for edited, kept in ((self.one, self.other), (self.other, self.one)):
            self.move()
            self.enter(edited, "y")
            self.refuse(EditedSince, self.desk.undo, kept)
            self.desk.undo(edited)
            self.desk.undo(kept)
            self.assertEqual(self.both(), ["abcd", "x"])

    def test_redoing_when_it_is_not_the_next_one_there(self):
        for edited, kept in ((self.one, self.other), (self.other, self.one)):
            self.move()
            self.desk.undo(kept)
            self.enter(edited, "y")
            self.refuse(EditedSince, self.desk.redo, kept)
            self.refuse(NothingToUndo, self.desk.redo, edited)
            self.desk.undo(edited)
            self.refuse(EditedSince, self.desk.redo, kept)
            self.assertEqual(self.both(), ["abcd", "x"])

    def test_redoing_behind_earlier_ones(self):
        self.enter(self.one, "12")
        self.move()
        self.assertEqual(self.both(), ["1bcd", "x2a"])
        self.desk.undo(self.other)
        self.desk.undo(self.one)
        self.assertEqual(self.both(), ["abcd", "x"])
        self.refuse(EditedSince, self.desk.redo, self.other)
        self.desk.redo(self.one)
        self.desk.redo(self.other)
        self.assertEqual(self.both(), ["1bcd", "x2a"])

    def test_edits_that_change_nothing_do_not_count(self):
        self.move()
        self.desk.edit(self.one, ("depth", 0, 0))
        self.desk.undo(self.other)
        self.desk.edit(self.other, ("insert", 0, ()))
        self.desk.redo(self.one)
        self.assertEqual(self.both(), ["ad", "xbc"])

    def test_the_other_one_is_closed(self):
        for closed, kept in ((0, 1), (1, 0)):
            documents = self.opened("abcd"), self.opened("x")
            self.move(*documents)
            self.desk.close(documents[closed])
            self.refuse(EditedSince, self.desk.undo, documents[kept])
            self.enter(documents[kept], "y")
            self.desk.undo(documents[kept])
            self.refuse(EditedSince, self.desk.undo, documents[kept])
            self.desk.redo(documents[kept])

    def test_closed_behind_undoing(self):
        self.move()
        self.desk.undo(self.other)
        self.desk.close(self.one)
        self.refuse(EditedSince, self.desk.redo, self.other)

    def test_nothing_to_undo_ahead_of_edited_since(self):
        self.move()
        self.desk.undo(self.one)
        self.desk.close(self.other)
        self.refuse(NothingToUndo, self.desk.undo, self.one)
        self.refuse(EditedSince, self.desk.redo, self.one)

    def test_several_moves_to_and_fro(self):
        third = self.opened("123")
        self.move()
        self.desk.drag(self.other, ("range", 0, 0, 0, 2), third, (0, 0, 0), True)
        self.desk.drag(third, ("range", 0, 0, 0, 1), self.one, (0, 0, 2), True)
        self.assertEqual(self.texts(self.one, self.other, third), ["adx", "c", "b123"])
        self.refuse(EditedSince, self.desk.undo, self.other)
        self.desk.undo(third)
        self.refuse(EditedSince, self.desk.undo, self.one)
        self.desk.undo(third)
        self.refuse(NothingToUndo, self.desk.undo, third)
        self.desk.undo(self.one)
        self.assertEqual(self.texts(self.one, self.other, third), ["abcd", "x", "123"])
        self.refuse(EditedSince, self.desk.redo, third)
        self.desk.redo(self.other)
        self.desk.redo(third)
        self.desk.redo(third)
        self.assertEqual(self.texts(self.one, self.other, third), ["adx", "c", "b123"])

    def test_moves_that_change_nothing(self):
        empty = self.opened("")
        self.enter(empty, "y")
        self.desk.undo(empty)
        self.enter(self.other, "y")
        self.desk.undo(self.other)
        before = inside(self.desk)
        self.desk.drag(empty, ("lines", 0, 0), self.other, (0, 0, 1), True)
        self.assertEqual(inside(self.desk), before)
        self.desk.drag(self.one, ("range", 0, 0, 1, 3), self.one, (0, 0, 3), True)
        self.assertEqual(inside(self.desk), before)

    def test_a_move_that_changes_one_of_both_is_an_edit_of_both(self):
        deep = self.opened(">", "star")
        self.desk.drag(deep, ("lines", 0, 0), self.other, (0, 0, 1), True)
        self.assertEqual(self.texts(deep, self.other), ["", "x"])
        self.desk.undo(self.other)
        self.assertEqual(self.texts(deep, self.other), [">", "x"])
        self.desk.redo(self.other)
        self.assertEqual(self.texts(deep, self.other), ["", "x"])
        self.enter(self.other, "y")
        self.refuse(EditedSince, self.desk.undo, deep)

    def test_of_more_than_fifty(self):
        self.move()
        for _ in range(49):
            self.enter(self.other, "y")
        self.refuse(EditedSince, self.desk.undo, self.one)
        for _ in range(49):
            self.desk.undo(self.other)
        self.desk.undo(self.one)
        self.assertEqual(self.both(), ["abcd", "x"])
        self.desk.redo(self.one)
        self.assertEqual(self.redo_all(self.other), ["y" * many + "xbc" for many in range(1, 50)])

    def test_a_move_that_the_other_one_has_forgotten(self):
        self.move()
        for _ in range(50):
            self.enter(self.other, "y")
        self.assertEqual(len(self.undo_all(self.other)), 50)
        self.assertEqual(self.both(), ["ad", "xbc"])
        self.refuse(EditedSince, self.desk.undo, self.one)

    def test_moves_are_undone_behind_going_back(self):
        self.move()
        mark = self.desk.mark()
        self.desk.undo(self.one)
        self.desk.back(mark)
        self.desk.undo(self.other)
        self.assertEqual(self.both(), ["abcd", "x"])
