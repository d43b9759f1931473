"""Points 2 and 25: marks of a desk, and going back to them."""

import unittest

from clipforms.desk import Desk
from clipforms.errors import EditedSince, NoMark, NothingToUndo
from tests.samples import NO, forms_named, inside, objects_of_all_kinds

FORMS = forms_named("full", "star", "cell")


def told(desk):
    """All that a desk tells without being changed, what can be undone and redone included."""
    documents = [number for number, _, _ in desk.open_documents()]
    entries = [entry for entry, _, _ in desk.history()]
    mark = desk.mark()
    rows = [
        desk.living(), desk.known_forms(), desk.supplied(), desk.open_documents(), desk.history(), desk.log(),
        [(number, desk.content_of(number), desk.text(number)) for number in documents],
        [(entry, desk.offered(entry), desk.can_ask(entry)) for entry in entries],
        [steps(desk, number, action, mark) for number in documents for action in ("undo", "redo")],
        [(entry, form, asked(desk, entry, form, mark)) for entry in entries for form in desk.can_ask(entry)],
        [desk.begin("pen"), desk.open_document(desk.living()[0][0], "plain", "")],
        desk.copy(desk.open_documents()[-1][0], ("lines", 0, 0), None, False),
    ]
    desk.back(mark)
    return rows


def told_of_none(desk):
    """What a desk without programs tells."""
    return [desk.living(), desk.known_forms(), desk.supplied(), desk.open_documents(), desk.history(), desk.log()]


def steps(desk, number, action, mark):
    """The texts of a document when all is undone or redone; the desk is as it was behind it."""
    texts = []
    try:
        while True:
            getattr(desk, action)(number)
            texts.append(desk.text(number))
    except ValueError as error:
        texts.append(type(error).__name__)
    desk.back(mark)
    return texts


def asked(desk, entry, form, mark):
    """The text of a form and the log behind it; the desk is as it was behind it."""
    answer = (desk.ask(entry, form), desk.log())
    desk.back(mark)
    return answer


class Case(unittest.TestCase):
    def setUp(self):
        self.desk = desk = Desk()
        self.program, self.other = desk.begin("pad"), desk.begin("pen")
        for form in FORMS.values():
            desk.bring(self.program, form)
        desk.supply(self.program, ("a", "full", "star", 1))
        desk.supply(self.other, ("b", "star", "plain", 1))
        self.one = desk.open_document(self.program, "full", "a*b*|c")
        self.two = desk.open_document(self.other, "plain", "x")
        desk.edit(self.one, ("enter", 0, 0, 0, "y", NO))
        desk.drag(self.one, ("range", 0, 0, 1, 2), self.two, (0, 0, 0), True)
        desk.edit(self.two, ("enter", 0, 0, 0, "z", NO))
        desk.undo(self.two)
        self.entry = desk.copy(self.one, ("lines", 0, 0), None, False)
        self.once = desk.copy(self.one, ("range", 0, 1, 0, 1), ("plain", "full"), True)
        desk.ask(self.entry, "star")
        desk.pin(self.entry)

    def changes(self):
        """Things that can be done one behind another, from here on."""
        desk = self.desk
        return [
            lambda: desk.undo(self.two), lambda: desk.redo(self.one), lambda: desk.edit(self.one, ("cut", 0, 0, 1)),
            lambda: desk.drag(self.two, ("range", 0, 0, 0, 1), self.one, (0, 0, 0), True),
            lambda: desk.open_document(self.other, "star", "*q*"), lambda: desk.close(self.one),
            lambda: desk.ask(self.entry, "plain"), lambda: desk.unpin(self.entry), lambda: desk.front(self.entry),
            lambda: desk.paste(self.once, ["full", "plain"], self.two, (0, 0, 0)),
            lambda: desk.copy(self.two, ("lines", 0, 0), None, False), lambda: desk.begin("new"),
            lambda: desk.bring(3, ("new", "", "", "", "_", "", "", "", "!")),
            lambda: desk.supply(3, ("c", "star", "new", 1)), lambda: desk.drop(self.entry),
            lambda: desk.end(self.program), lambda: desk.crash(self.other), lambda: desk.end(3),
        ]


class Marks(Case):
    def test_numbers(self):
        self.assertEqual([self.desk.mark() for _ in range(3)], [0, 1, 2])
        self.assertIsNone(self.desk.back(1))
        self.assertEqual([self.desk.mark() for _ in range(2)], [2, 3])
        self.desk.back(0)
        self.assertEqual(self.desk.mark(), 1)

    def test_one_change_behind_another(self):
        before = told(self.desk)
        mark = self.desk.mark()
        for many in range(len(self.changes()) + 1):
            for change in self.changes()[:many]:
                change()
            self.desk.back(mark)
            self.assertEqual(told(self.desk), before)

    def test_each_change_is_brought_back(self):
        for at, change in enumerate(self.changes()):
            with self.subTest(at):
                before = told(self.desk)
                mark = self.desk.mark()
                change()
                behind = told(self.desk)
                self.assertNotEqual(behind, before)
                self.desk.back(mark)
                self.assertEqual(told(self.desk), before)
                # From there on all goes as it went.
                change()
                self.assertEqual(told(self.desk), behind)

    def test_several_marks(self):
        stages = []
        for change in self.changes():
            stages.append((self.desk.mark(), told(self.desk)))
            change()
        for mark, wanted in reversed(stages):
            for _ in range(2):
                self.desk.back(mark)
                self.assertEqual(told(self.desk), wanted)
                self.desk.begin("more")
        self.desk.back(0)
        self.assertEqual(self.desk.mark(), 1)

    def test_back_to_the_beginning(self):
        desk = Desk()
        empty = told_of_none(desk)
        desk.mark()
        desk.open_document(desk.begin("pad"), "plain", "a")
        desk.back(0)
        self.assertEqual([desk.living(), desk.open_documents(), desk.begin("pad")], [[], [], 1])
        self.assertEqual(desk.open_document(1, "plain", "b"), 1)
        desk.back(0)
        self.assertEqual(told_of_none(desk), empty)

    def test_numbers_go_on_as_they_did_at_the_mark(self):
        desk = self.desk
        mark = desk.mark()
        for _ in range(2):
            for _ in range(2):
                desk.back(mark)
                self.assertEqual(desk.begin("new"), 3)
                self.assertEqual(desk.open_document(3, "plain", ""), 3)
                self.assertEqual(desk.copy(3, ("lines", 0, 0), None, False), 3)
            self.assertEqual(desk.open_document(3, "plain", ""), 4)

    def test_moves_and_later_edits_are_told_apart(self):
        desk = Desk()
        program = desk.begin("pad")
        one, two = [desk.open_document(program, "plain", text) for text in ("ab", "x")]
        desk.drag(one, ("range", 0, 0, 0, 1), two, (0, 0, 0), True)
        desk.back(desk.mark())
        desk.edit(two, ("enter", 0, 0, 0, "y", NO))
        with self.assertRaises(EditedSince):
            desk.undo(one)
        desk.undo(two)
        desk.undo(one)
        self.assertEqual([desk.text(one), desk.text(two)], ["ab", "x"])

    def test_forms_are_known_no_more(self):
        desk = Desk()
        program = desk.begin("pad")
        mark = desk.mark()
        desk.bring(program, FORMS["star"])
        desk.back(mark)
        self.assertEqual(len(desk.known_forms()), 1)
        desk.bring(program, ("star", "", "", "", "_", "", "", "", "!"))

    def test_what_could_be_undone_when_marked(self):
        mark = self.desk.mark()
        self.desk.undo(self.two)
        self.desk.undo(self.one)
        with self.assertRaises(NothingToUndo):
            self.desk.undo(self.one)
        self.desk.back(mark)
        self.desk.redo(self.two)
        self.assertEqual(self.desk.text(self.two), "zax")
        self.desk.undo(self.two)
        self.desk.undo(self.one)
        self.assertEqual([self.desk.text(self.one), self.desk.text(self.two)], ["ya*b*|c", "x"])

    def test_no_mark(self):
        self.desk.mark()
        self.desk.mark()
        self.desk.back(0)
        for thing in objects_of_all_kinds()[1:] + [1, 2, -1, True, False, None, "0", (0,), [0]]:
            before = inside(self.desk)
            with self.subTest(repr(thing)[:40]), self.assertRaises(NoMark):
                self.desk.back(thing)
            self.assertEqual(inside(self.desk), before)
        with self.assertRaises(NoMark):
            Desk().back(0)
