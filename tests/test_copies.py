"""Points 3 and 17 to 20 on a desk: copies, what they offer, asking late, and the log."""

import unittest

from clipforms.contents import keep
from clipforms.desk import Desk
from clipforms.errors import Gone, NoDocument, NoEntry, NoForm, NoPlace, NotMakable, NotOffered
from clipforms.forms import write
from clipforms.makers import best, shows_best
from tests.samples import BOLD, NO, PLAIN, SLANT, cell, forms_named, inside, one_line

FORMS = forms_named("full", "star", "dot", "cell", "page")
MAKERS = [
    ("a", "full", "page", 1), ("b", "page", "star", 1), ("c", "star", "dot", 1), ("d", "dot", "plain", 1),
    ("e", "full", "cell", 5), ("f", "cell", "plain", 0),
]
TEXT = ">a*b*|c\n_d_"
CONTENT = ((1, (cell("a", ("b", BOLD)), cell("c"))), (0, (cell(("d", SLANT)),)))
DUES = [
    ("cell", ("cells",)), ("dot", ("bold",)), ("full", ("cells", "nest", "bold", "slant")),
    ("page", ("cells", "bold", "slant")), ("plain", ()), ("star", ("bold",)),
]
TEXTS = {
    "cell": "ab|c\nd", "dot": "a*b* c\nd", "full": TEXT, "page": "a*b*|c\n_d_", "plain": "ab c\nd", "star": "a*b* c\nd",
}


class Case(unittest.TestCase):
    def setUp(self):
        self.desk = Desk()
        self.program = self.desk.begin("pad")
        for form in FORMS.values():
            self.desk.bring(self.program, form)
        for maker in MAKERS:
            self.desk.supply(self.program, maker)
        self.document = self.desk.open_document(self.program, "full", TEXT)

    def copy(self, offer=None, selection=("lines", 0, 1)):
        return self.desk.copy(self.document, selection, offer, False)

    def refuse(self, error, action, *arguments):
        before = inside(self.desk)
        with self.assertRaises(error) as caught:
            action(*arguments)
        self.assertEqual(inside(self.desk), before)
        return caught.exception


class Offers(Case):
    def test_all_forms(self):
        self.assertEqual(self.desk.offered(self.copy()), DUES)

    def test_an_offer_in_any_order(self):
        for offer in (("star", "cell", "plain", "full"), ("plain",), ("page", "dot"), ()):
            with self.subTest(offer):
                self.assertEqual(self.desk.offered(self.copy(offer)), [(form, dict(DUES)[form]) for form in offer])
                self.assertEqual(self.desk.can_ask(self.copy(offer)), list(offer))

    def test_forms_to_which_there_is_no_chain(self):
        plain = self.desk.open_document(self.program, "plain", "a")
        self.assertEqual(self.desk.offered(self.desk.copy(plain, ("lines", 0, 0), None, False)), [("plain", ())])
        error = self.refuse(NotMakable, self.desk.copy, plain, ("lines", 0, 0), ("plain", "star", "cell"), False)
        self.assertEqual((error.form, error.closed), ("star", ("plain",)))

    def test_by_the_makers_that_are_known_then(self):
        before = self.copy()
        other = self.desk.begin("pen")
        self.desk.bring(other, ("new", "", "", "", "_", "", "", "", "!"))
        self.desk.supply(other, ("g", "full", "new", 1))
        self.desk.supply(other, ("h", "new", "star", 1))
        self.assertEqual(self.desk.offered(before), DUES)
        behind = self.copy()
        self.assertEqual(self.desk.offered(behind), sorted(DUES + [("new", ("slant",))]))
        self.desk.end(other)
        self.assertEqual([name for name, _ in self.desk.offered(self.copy())], [name for name, _ in DUES])

    def test_nothing_is_made(self):
        self.copy()
        self.copy(("plain",))
        self.assertEqual(self.desk.log(), [])

    def test_selections(self):
        for selection, text in [
            (("lines", 0, 0), ">a*b*|c"), (("lines", 1, 1), "_d_"), (("lines", 0, 1), TEXT),
            (("range", 0, 0, 0, 2), "a*b*"), (("range", 0, 0, 1, 2), "*b*"), (("range", 1, 0, 0, 1), "_d_"),
        ]:
            with self.subTest(selection):
                self.assertEqual(self.desk.ask(self.copy(("full",), selection), "full"), text)

    def test_what_is_used_alone_is_kept(self):
        entry = self.copy(None, ("range", 0, 0, 0, 1))
        self.assertEqual(self.desk.offered(entry), [(name, ()) for name, _ in DUES])
        entry = self.copy(None, ("range", 0, 0, 1, 2))
        bold = ("dot", "full", "page", "star")
        self.assertEqual(self.desk.offered(entry), [(name, ("bold",) if name in bold else ()) for name, _ in DUES])

    def test_numbers(self):
        self.assertEqual([self.copy() for _ in range(3)], [1, 2, 3])
        self.desk.drop(3)
        self.assertEqual(self.copy(), 4)

    def test_refused(self):
        copy = self.desk.copy
        self.refuse(NoDocument, copy, 2, ("lines", 5, 5), ("none",), False)
        for selection in (("lines", 0, 2), ("lines", 1, 0), ("range", 0, 2, 0, 1), ("range", 0, 0, 1, 1)):
            self.refuse(NoPlace, copy, self.document, selection, ("none",), False)
        self.refuse(NoForm, copy, self.document, ("lines", 0, 0), ("plain", "none"), False)
        plain = self.desk.open_document(self.program, "plain", "a")
        self.refuse(NoForm, copy, plain, ("lines", 0, 0), ("star", "none"), False)
        self.assertEqual(self.copy(), 1)


class Asking(Case):
    def ask_all(self, entry, forms):
        self.assertEqual([self.desk.ask(entry, form) for form in forms], [TEXTS[form] for form in forms])

    def test_texts(self):
        self.assertEqual(self.desk.content_of(self.document), CONTENT)
        for name, features in DUES:
            self.assertEqual(self.desk.ask(self.copy(), name), TEXTS[name])
            self.assertEqual(TEXTS[name], write(FORMS[name], keep(CONTENT, features)))

    def test_the_log(self):
        entry = self.copy()
        self.ask_all(entry, ["plain"])
        self.assertEqual(self.desk.log(), [
            (1, "a", "page", ("cells", "bold", "slant")), (1, "b", "star", ("bold",)), (1, "c", "dot", ("bold",)),
            (1, "d", "plain", ()),
        ])
        self.ask_all(entry, ["star", "page", "dot", "plain", "full"])
        self.assertEqual(len(self.desk.log()), 4)
        self.ask_all(entry, ["cell"])
        self.assertEqual(self.desk.log()[4:], [(1, "e", "cell", ("cells",))])
        other = self.copy()
        self.ask_all(other, ["star"])
        self.assertEqual(self.desk.log()[5:], [
            (2, "a", "page", ("cells", "bold", "slant")), (2, "b", "star", ("bold",)),
        ])

    def test_no_text_is_made_twice(self):
        entries = [self.copy(), self.copy(("plain", "cell"))]
        for entry in entries * 2:
            for name, _ in self.desk.offered(entry):
                self.ask_all(entry, [name])
        made = [(entry, form, features) for entry, _, form, features in self.desk.log()]
        self.assertEqual(len(set(made)), len(made))

    def test_whatever_becomes_of_the_document(self):
        entry = self.copy()
        self.desk.edit(self.document, ("delete", 0, 1))
        self.ask_all(entry, ["star"])
        self.desk.close(self.document)
        self.ask_all(entry, ["cell", "full", "plain"])
        self.assertEqual(self.desk.offered(entry), DUES)

    def test_whatever_begins_and_ends(self):
        entry = self.copy()
        other = self.desk.begin("pen")
        self.desk.supply(other, ("g", "plain", "star", 0))
        self.desk.supply(other, ("h", "full", "dot", 0))
        self.desk.end(self.program)
        self.ask_all(entry, [name for name, _ in DUES])
        self.desk.end(other)
        self.ask_all(entry, [name for name, _ in DUES])

    def test_not_offered(self):
        entry = self.copy(("plain", "star"))
        for form in ("full", "none", "", "Star"):
            self.refuse(NotOffered, self.desk.ask, entry, form)

    def test_no_entry(self):
        self.copy()
        dropped = self.copy()
        self.desk.drop(dropped)
        desk = self.desk
        for thing in (dropped, 0, 3, -1, True, False, None, "", "1", (), (1,), [1], {}, {1: 1}, 10 ** 30 - 1):
            with self.subTest(repr(thing)):
                for action in (desk.offered, desk.can_ask, desk.front, desk.pin, desk.unpin, desk.drop):
                    self.refuse(NoEntry, action, thing)
                self.refuse(NoEntry, desk.ask, thing, "none")
                self.refuse(NoEntry, desk.paste, thing, ["none"], 99, (9, 9, 9))


class BehindCrashes(Case):
    def test_gone_and_had_again(self):
        entry = self.copy()
        self.assertEqual(self.desk.ask(entry, "star"), TEXTS["star"])
        self.assertIsNone(self.desk.crash(self.program))
        self.assertEqual(self.desk.can_ask(entry), ["page", "star"])
        self.assertEqual(self.desk.ask(entry, "page"), TEXTS["page"])
        self.assertEqual(self.desk.ask(entry, "star"), TEXTS["star"])
        for form, closed in [("plain", ("page", "star")), ("dot", ("page", "star")), ("cell", ("page",)), ("full", ())]:
            self.assertEqual(self.refuse(Gone, self.desk.ask, entry, form).closed, closed)
        other = self.desk.begin("pen")
        self.desk.supply(other, ("g", "star", "plain", 9))
        self.assertEqual(self.desk.can_ask(entry), ["page", "plain", "star"])
        self.assertEqual(self.desk.ask(entry, "plain"), TEXTS["plain"])
        self.assertEqual(self.desk.log()[2:], [(1, "g", "plain", ())])
        self.assertEqual(self.refuse(Gone, self.desk.ask, entry, "dot").closed, ("page", "star"))
        self.desk.supply(other, ("h", "page", "cell", 9))
        self.assertEqual(self.desk.ask(entry, "cell"), TEXTS["cell"])
        self.desk.crash(other)
        self.assertEqual(self.desk.can_ask(entry), ["cell", "page", "plain", "star"])

    def test_the_closed_set_is_the_least_one(self):
        entry = self.copy(("plain", "dot"))
        self.desk.ask(entry, "dot")
        self.desk.crash(self.program)
        other = self.desk.begin("pen")
        for maker in (("g", "page", "full", 1), ("h", "plain", "cell", 1), ("i", "cell", "full", 1)):
            self.desk.supply(other, maker)
        self.assertEqual(self.refuse(Gone, self.desk.ask, entry, "plain").closed, ("dot", "full", "page", "star"))
        self.assertEqual(self.desk.can_ask(entry), ["dot"])

    def test_a_text_and_a_chain_must_have_what_is_due(self):
        entry = self.copy(("cell", "page", "star"))
        self.desk.ask(entry, "cell")
        self.desk.crash(self.program)
        other = self.desk.begin("pen")
        self.desk.supply(other, ("g", "cell", "star", 1))
        self.assertEqual(self.refuse(Gone, self.desk.ask, entry, "star").closed, ())
        self.assertEqual(self.desk.can_ask(entry), ["cell"])
        self.setUp()
        entry = self.copy(("page", "star"))
        self.desk.ask(entry, "page")
        self.desk.crash(self.program)
        other = self.desk.begin("pen")
        self.desk.supply(other, ("g", "page", "cell", 1))
        self.desk.supply(other, ("h", "cell", "star", 1))
        self.assertEqual(self.refuse(Gone, self.desk.ask, entry, "star").closed, ("page",))
        self.assertEqual(self.desk.can_ask(entry), ["page"])

    def test_only_the_owners_crash_takes_the_own_text(self):
        other = self.desk.begin("pen")
        entry = self.copy(("full", "plain"))
        self.desk.crash(other)
        self.assertEqual(self.desk.can_ask(entry), ["full", "plain"])
        self.desk.crash(self.program)
        self.assertEqual(self.desk.can_ask(entry), [])

    def test_a_crash_of_a_maker_alone(self):
        other = self.desk.begin("pen")
        self.desk.bring(other, ("new", "", "", "", "_", "", "", "", "!"))
        self.desk.supply(other, ("g", "full", "new", 1))
        entry = self.copy(("new", "plain"))
        self.desk.crash(other)
        self.assertEqual(self.desk.can_ask(entry), ["plain"])
        error = self.refuse(Gone, self.desk.ask, entry, "new")
        self.assertEqual(error.closed, ("full", "page"))
        self.assertEqual(self.desk.offered(entry), [("new", ("slant",)), ("plain", ())])


class Bests(Case):
    def test_the_dues_are_those_of_the_best_chains(self):
        makers = tuple(MAKERS)
        used = ("cells", "nest", "bold", "slant")
        for name, features in self.desk.offered(self.copy()):
            answer = best(FORMS, makers, "full", used, name)
            self.assertTrue(shows_best(FORMS, makers, "full", used, name, answer))
            self.assertEqual(answer[1], features)

    def test_late_answers_are_those_of_the_copy(self):
        for asked in range(len(DUES)):
            self.setUp()
            entry = self.copy()
            self.desk.edit(self.document, ("enter", 0, 0, 0, "x", NO))
            other = self.copy()
            order = [name for name, _ in DUES[asked:] + DUES[:asked]]
            self.assertEqual([self.desk.ask(entry, name) for name in order], [TEXTS[name] for name in order])
            self.assertEqual(self.desk.ask(other, "full"), self.desk.text(self.document))

    def test_plain_alone(self):
        desk = Desk()
        document = desk.open_document(desk.begin("pad"), "plain", "a*")
        entry = desk.copy(document, ("lines", 0, 0), None, False)
        self.assertEqual([desk.offered(entry), desk.ask(entry, "plain"), desk.log()], [[("plain", ())], "a*", []])
        self.assertEqual(desk.content_of(document), one_line(cell("a*")))
        self.assertEqual(desk.known_forms(), [PLAIN])
