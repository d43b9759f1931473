"""Points 3, 21 and 22 on a desk: what is made before a program ends, with certificates, and that nothing is lost."""

import unittest

from clipforms.desk import Desk
from clipforms.ends import shows_need
from clipforms.entries import Entry
from clipforms.errors import Gone, NoProgram
from clipforms.forms import read
from tests.samples import forms_named, inside

FORMS = forms_named("full", "all", "star", "dot", "cell")
TEXT = "a*b*|c"


class Case(unittest.TestCase):
    def setUp(self):
        self.desk = Desk()
        self.program = self.desk.begin("pad")
        self.other = self.desk.begin("pen")
        for form in FORMS.values():
            self.desk.bring(self.program, form)

    def supply(self, *makers):
        for program, maker in makers:
            self.desk.supply(program, maker)

    def copied(self, offer=None, program=None, text=TEXT):
        document = self.desk.open_document(program or self.program, "full", text)
        entry = self.desk.copy(document, ("lines", 0, 0), offer, False)
        self.desk.close(document)
        return entry

    def texts(self, entry):
        return {form: self.desk.ask(entry, form) for form in self.desk.can_ask(entry)}


class Ends(Case):
    def test_nothing_is_lost(self):
        self.supply((self.other, ("a", "full", "star", 1)), (self.other, ("b", "star", "plain", 1)))
        entry = self.copied()
        self.assertEqual(self.desk.end(self.desk.begin("new")), [])
        self.assertEqual([self.desk.log(), self.desk.can_ask(entry)], [[], ["full", "plain", "star"]])

    def test_the_own_text_is_kept_without_a_maker(self):
        self.supply((self.other, ("a", "full", "star", 1)), (self.other, ("b", "star", "plain", 1)))
        entry = self.copied()
        self.assertEqual(self.desk.end(self.program), [(entry, "full", (("full",), ("full",)))])
        self.assertEqual(self.desk.log(), [])
        self.assertEqual(self.desk.end(self.other), [
            (entry, "plain", (("plain",), ("plain",))), (entry, "star", (("star",), ("star",))),
        ])
        self.assertEqual(self.desk.log(), [(entry, "a", "star", ("bold",)), (entry, "b", "plain", ())])
        self.assertEqual(self.texts(entry), {"full": TEXT, "plain": "ab c", "star": "a*b* c"})

    def test_the_fewest_are_made(self):
        self.supply(
            (self.program, ("a", "full", "star", 1)), (self.other, ("b", "star", "dot", 1)),
            (self.other, ("c", "dot", "star", 1)), (self.other, ("d", "dot", "plain", 1)),
        )
        for offer, form in ((("plain", "star", "dot"), "star"), (("dot", "plain", "star"), "dot")):
            entry = self.copied(offer)
            mark = self.desk.mark()
            self.assertEqual(self.desk.end(self.program), [(entry, form, (("dot", "star"), ("dot", "star")))])
            self.assertEqual(self.texts(entry), {"star": "a*b* c", "dot": "a*b* c", "plain": "ab c"})
            self.desk.back(mark)
            self.desk.drop(entry)

    def test_several_entries_and_several_lost_forms(self):
        self.supply(
            (self.program, ("a", "full", "star", 1)), (self.other, ("b", "full", "cell", 1)),
            (self.program, ("c", "cell", "plain", 1)),
        )
        own = self.copied(("cell", "full", "star", "plain"))
        theirs = self.copied(("star", "cell", "plain"), self.other)
        dropped = self.copied()
        third = self.copied(("plain", "star"))
        self.desk.drop(dropped)
        self.desk.front(own)
        told = self.desk.end(self.program)
        self.assertEqual([row[:2] for row in told], [
            (own, "full"), (own, "star"), (own, "plain"), (theirs, "star"), (theirs, "plain"), (third, "plain"),
            (third, "star"),
        ])
        self.assertEqual([row[:3] for row in self.desk.log()], [
            (own, "a", "star"), (own, "b", "cell"), (own, "c", "plain"), (theirs, "a", "star"), (theirs, "b", "cell"),
            (theirs, "c", "plain"), (third, "b", "cell"), (third, "c", "plain"), (third, "a", "star"),
        ])
        self.assertEqual(self.texts(own), {"cell": "ab|c", "full": TEXT, "star": "a*b* c", "plain": "ab c"})
        self.assertEqual(self.texts(theirs), {"cell": "ab|c", "star": "a*b* c", "plain": "ab c"})
        self.assertEqual(self.texts(third), {"plain": "ab c", "star": "a*b* c"})

    def test_certificates(self):
        makers = {
            self.program: [("a", "full", "star", 1), ("b", "star", "dot", 1), ("c", "cell", "plain", 2)],
            self.other: [("d", "full", "cell", 1), ("e", "dot", "star", 1), ("f", "dot", "plain", 1)],
        }
        self.supply(*[(program, maker) for program, given in makers.items() for maker in given])
        known = tuple(makers[self.program] + makers[self.other])
        staying = tuple(makers[self.other])
        entry = self.copied()
        theirs = self.copied(None, self.other)
        told = self.desk.end(self.program)
        self.assertEqual(told, [
            (entry, "dot", (("dot",), ("dot",))), (entry, "full", (("full",), ("full",))),
            (theirs, "dot", (("dot",), ("dot",))),
        ])
        for number, form, certificate in told:
            held = Entry(number, read(FORMS["full"], TEXT), "full", None, FORMS, known)
            self.assertTrue(shows_need(FORMS, known, staying, held, number == theirs, form, certificate))

    def test_what_is_at_hand_already_is_not_made(self):
        self.supply((self.program, ("a", "full", "star", 1)), (self.program, ("b", "star", "plain", 1)))
        entry = self.copied()
        self.desk.ask(entry, "plain")
        self.assertEqual(self.desk.end(self.program), [(entry, "full", (("full",), ("full",)))])
        self.assertEqual(len(self.desk.log()), 2)

    def test_what_is_gone_is_not_made(self):
        self.supply((self.other, ("a", "full", "star", 1)))
        entry = self.copied(("star", "full"))
        self.desk.crash(self.program)
        self.assertEqual(self.desk.end(self.other), [])
        self.assertEqual(self.desk.can_ask(entry), [])
        with self.assertRaises(Gone):
            self.desk.ask(entry, "star")

    def test_what_ends_one_behind_another(self):
        self.supply((self.program, ("a", "full", "star", 1)), (self.other, ("b", "star", "plain", 1)))
        entry = self.copied()
        self.assertEqual([row[1] for row in self.desk.end(self.other)], ["plain"])
        self.assertEqual([row[1] for row in self.desk.end(self.program)], ["full"])
        self.assertEqual(self.texts(entry), {"full": TEXT, "plain": "ab c", "star": "a*b* c"})

    def test_a_crash_makes_nothing(self):
        self.supply((self.program, ("a", "full", "star", 1)))
        entry = self.copied()
        self.desk.ask(entry, "star")
        self.assertIsNone(self.desk.crash(self.program))
        self.assertEqual(len(self.desk.log()), 1)
        self.assertEqual(self.texts(entry), {"star": "a*b* c"})

    def test_no_program(self):
        self.copied()
        for action in (self.desk.end, self.desk.crash):
            before = inside(self.desk)
            with self.assertRaises(NoProgram):
                action(3)
            self.assertEqual(inside(self.desk), before)
