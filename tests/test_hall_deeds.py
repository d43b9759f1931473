"""Points 3, 21, 22, and 30 to 33: orderly and sudden deeds, what is made before, and marks of a hall."""

import unittest

from clipforms.ends import shows_need
from clipforms.entries import Entry
from clipforms.errors import Gone, NoDesk, NoLink, NoMark, NoProgram, NotOffered
from clipforms.forms import read
from clipforms.hall import Hall
from tests.samples import NO, PLAIN, inside, objects_of_all_kinds

STAR = "form star bold * escape !"
FULL = "form full cell | bold * escape !"
FULL_SIGNS = ("full", "|", "", "*", "", "", "", "", "!")
STAR_SIGNS = ("star", "", "", "*", "", "", "", "", "!")
TEXT = "a*b*|c"
TEXTS = {"full": TEXT, "star": "a*b* c", "plain": "ab c"}


def alone(name):
    """The certificate of a node that nothing else gives."""
    return ((name,), (name,))


class Case(unittest.TestCase):
    def setUp(self):
        """Two desks that are linked; the makers are those of two programs of the first one."""
        self.hall = hall = Hall()
        for name in "ab":
            hall.set_up(name)
        hall.link("a", "b", 1)
        self.owner = hall.begin("a", "pad", FULL)
        makers = "maker m from full to star cost 1\nmaker n from star to plain cost 1"
        self.helper = hall.begin("a", "pen", f"{STAR}\n{makers}")
        self.other = hall.begin("b", "pot", STAR)
        self.document = hall.open_document(self.owner, "full", TEXT)
        self.entry = hall.copy(self.document, ("lines", 0, 0), None)
        self.all = ["a/full", "a/plain", "a/star", "b/plain", "b/star"]

    def check_asking(self, *names, entry=None):
        """Check which nodes can be asked, and that each gives its text."""
        entry = entry or self.entry
        self.assertEqual(self.hall.can_ask(entry), list(names))
        mark = self.hall.mark()
        for name, _ in self.hall.offered(entry):
            if name in names:
                self.assertEqual(self.hall.ask(entry, name), TEXTS[name.split("/")[1]])
            else:
                with self.assertRaises(Gone):
                    self.hall.ask(entry, name)
        self.hall.back(mark)

    def refuse(self, error, action, *arguments):
        before = inside(self.hall)
        with self.assertRaises(error):
            action(*arguments)
        self.assertEqual(inside(self.hall), before)


class Programs(Case):
    def test_an_end_keeps_the_own_text(self):
        self.check_asking(*self.all)
        self.assertEqual(self.hall.end(self.owner), [(self.entry, "a/full", alone("a/full"))])
        self.assertEqual(self.hall.log(), [])
        self.check_asking(*self.all)

    def test_an_end_makes_what_is_lost(self):
        both = ("a/star", "b/star")
        self.assertEqual(self.hall.end(self.helper), [
            (self.entry, "a/plain", (("a/plain", "b/plain"), ("a/plain", "b/plain"))),
            (self.entry, "a/star", (both, both)),
        ])
        self.assertEqual(self.hall.log(), [
            (self.entry, "a/m", "a/star", ("bold",)), (self.entry, "a/n", "a/plain", ()),
        ])
        self.check_asking(*self.all)

    def test_of_one_class_the_first_in_the_offer_is_made(self):
        self.hall.drop(self.entry)
        both = ("a/star", "b/star")
        for offer in (("b/star", "a/star"), ("a/star", "b/star"), ("b/star",)):
            entry = self.hall.copy(self.document, ("lines", 0, 0), offer)
            mark = self.hall.mark()
            group = tuple(sorted(offer))
            self.assertEqual(self.hall.end(self.helper), [(entry, offer[0], (group, both))])
            self.check_asking(*offer, entry=entry)
            self.hall.back(mark)
            self.hall.drop(entry)

    def test_a_crash_makes_nothing(self):
        self.assertEqual(self.hall.ask(self.entry, "b/star"), TEXTS["star"])
        self.assertIsNone(self.hall.crash(self.owner))
        self.assertEqual(len(self.hall.log()), 2)
        self.check_asking("a/plain", "a/star", "b/plain", "b/star")
        self.hall.crash(self.helper)
        self.check_asking("a/star", "b/star")

    def test_an_end_that_loses_nothing(self):
        self.assertEqual(self.hall.end(self.other), [])
        self.assertEqual(self.hall.end(self.hall.begin("b", "new", "")), [])

    def test_forms_stay_known_when_their_program_ends(self):
        nodes = self.hall.nodes()
        self.hall.end(self.owner)
        self.hall.crash(self.helper)
        self.assertEqual(self.hall.nodes(), nodes)
        self.assertEqual(self.hall.all_makers(), [
            ("a>b/plain", "a/plain", "b/plain", 1), ("a>b/star", "a/star", "b/star", 1),
            ("b>a/plain", "b/plain", "a/plain", 1), ("b>a/star", "b/star", "a/star", 1),
        ])


class Links(Case):
    def test_unlink_makes_what_is_lost(self):
        self.assertEqual(self.hall.unlink("b", "a"), [
            (self.entry, "b/plain", alone("b/plain")), (self.entry, "b/star", alone("b/star")),
        ])
        self.assertEqual(self.hall.log(), [
            (self.entry, "a/m", "a/star", ("bold",)), (self.entry, "a/n", "a/plain", ()),
            (self.entry, "a>b/plain", "b/plain", ()), (self.entry, "a>b/star", "b/star", ("bold",)),
        ])
        self.assertEqual(self.hall.linked(), [])
        self.check_asking(*self.all)

    def test_unlink_where_another_way_is_left(self):
        self.hall.set_up("c")
        self.hall.link("a", "c", 1)
        self.hall.link("c", "b", 1)
        self.assertEqual([row[:2] for row in self.hall.unlink("a", "b")], [(self.entry, "b/star")])
        self.check_asking(*self.all)

    def test_cut_makes_nothing(self):
        self.assertEqual(self.hall.ask(self.entry, "b/plain"), TEXTS["plain"])
        self.assertIsNone(self.hall.cut("a", "b"))
        self.assertEqual(len(self.hall.log()), 3)
        self.check_asking("a/full", "a/plain", "a/star", "b/plain")
        self.hall.link("a", "b", 5)
        self.check_asking(*self.all)

    def test_refused(self):
        for action in (self.hall.unlink, self.hall.cut):
            self.refuse(NoDesk, action, "a", "c")
            self.refuse(NoLink, action, "a", "a")
        self.hall.unlink("a", "b")
        for action in (self.hall.unlink, self.hall.cut):
            self.refuse(NoLink, action, "a", "b")


class Desks(Case):
    def test_clear_makes_what_is_lost_and_offers_its_nodes_no_more(self):
        self.assertEqual(self.hall.clear("a"), [
            (self.entry, "b/plain", alone("b/plain")), (self.entry, "b/star", alone("b/star")),
        ])
        self.assertEqual([row[1] for row in self.hall.log()], ["a/m", "a/n", "a>b/plain", "a>b/star"])
        self.assertEqual(self.hall.offered(self.entry), [("b/plain", ()), ("b/star", ("bold",))])
        self.check_asking("b/plain", "b/star")
        self.refuse(NotOffered, self.hall.ask, self.entry, "a/full")
        self.assertEqual([self.hall.desks(), self.hall.nodes()], [["b"], ["b/plain", "b/star"]])
        self.assertEqual(self.hall.living(), [(self.other, "b", "pot")])

    def test_clear_a_desk_that_gives_nothing(self):
        self.assertEqual(self.hall.clear("b"), [])
        self.assertEqual(self.hall.log(), [])
        self.check_asking("a/full", "a/plain", "a/star")

    def test_fall_makes_nothing(self):
        self.assertEqual(self.hall.ask(self.entry, "b/plain"), TEXTS["plain"])
        self.assertIsNone(self.hall.fall("a"))
        self.assertEqual(self.hall.offered(self.entry), [("b/plain", ()), ("b/star", ("bold",))])
        self.check_asking("b/plain")

    def test_all_that_is_offered_goes(self):
        self.hall.drop(self.entry)
        entry = self.hall.copy(self.document, ("lines", 0, 0), ("a/full", "a/star"))
        self.assertEqual(self.hall.clear("a"), [])
        self.assertEqual([self.hall.offered(entry), self.hall.can_ask(entry)], [[], []])
        self.assertEqual(self.hall.all_entries(), [entry])

    def test_texts_at_its_nodes_are_gone(self):
        """A desk of the same name that is set up again has none of the texts of the one that is gone."""
        for word in ("clear", "fall"):
            self.setUp()
            self.hall.set_up("c")
            self.hall.link("b", "c", 1)
            self.hall.begin("c", "pot", STAR)
            entry = self.hall.copy(self.document, ("lines", 0, 0), ("b/star", "a/star"))
            self.hall.ask(entry, "b/star")
            self.hall.ask(entry, "a/star")
            getattr(self.hall, word)("b")
            self.assertEqual(self.hall.offered(entry), [("a/star", ("bold",))])
            self.hall.set_up("b")
            self.assertEqual(self.hall.nodes(), ["a/full", "a/plain", "a/star", "b/plain", "c/plain", "c/star"])
            self.assertEqual(self.hall.offered(entry), [("a/star", ("bold",))])
            self.refuse(NotOffered, self.hall.ask, entry, "b/star")

    def test_set_up_again_behind_a_fall(self):
        """What is left of an entry is not given by what stood at the desk that fell."""
        self.hall.set_up("c")
        self.hall.link("b", "c", 1)
        self.hall.begin("c", "pot", STAR)
        entry = self.hall.copy(self.document, ("lines", 0, 0), ("c/star", "b/star", "c/plain"))
        self.hall.ask(entry, "b/star")
        self.hall.fall("b")
        self.check_asking(entry=entry)
        self.hall.set_up("b")
        self.hall.begin("b", "pot", STAR)
        self.hall.link("b", "c", 1)
        self.check_asking(entry=entry)
        with self.assertRaises(Gone) as caught:
            self.hall.ask(entry, "c/star")
        self.assertEqual(caught.exception.closed, ("a/full", "a/star"))
        self.hall.link("a", "b", 1)
        self.check_asking("c/star", "c/plain", entry=entry)

    def test_the_own_text_goes_with_its_desk(self):
        self.hall.drop(self.entry)
        entry = self.hall.copy(self.document, ("lines", 0, 0), ("b/star", "b/plain"))
        self.hall.fall("a")
        self.check_asking(entry=entry)
        self.hall.set_up("a")
        self.hall.begin("a", "pad", f"{FULL}\n{STAR}\nmaker m from full to star cost 1")
        self.hall.link("a", "b", 1)
        self.check_asking(entry=entry)

    def test_several_entries(self):
        theirs = self.hall.copy(self.hall.open_document(self.other, "star", "a*b* c"), ("lines", 0, 0), None)
        dropped = self.hall.copy(self.document, ("lines", 0, 0), None)
        third = self.hall.copy(self.document, ("lines", 0, 0), ("b/star", "a/full", "b/plain"))
        self.hall.drop(dropped)
        self.assertEqual(self.hall.clear("a"), [
            (self.entry, "b/plain", alone("b/plain")), (self.entry, "b/star", alone("b/star")),
            (theirs, "b/plain", alone("b/plain")), (third, "b/star", alone("b/star")),
            (third, "b/plain", alone("b/plain")),
        ])
        self.assertEqual(self.hall.all_entries(), [self.entry, theirs, third])
        for entry in (self.entry, theirs, third):
            self.assertEqual(sorted(self.hall.can_ask(entry)), ["b/plain", "b/star"])
        self.assertEqual([self.hall.ask(theirs, name) for name in ("b/plain", "b/star")], ["ab c", "a*b* c"])

    def test_certificates(self):
        signs = {"full": FULL_SIGNS, "star": STAR_SIGNS, "plain": PLAIN}
        forms = {name: signs[name.split("/")[1]] for name in self.hall.nodes()}
        makers = tuple(self.hall.all_makers())
        entry = Entry(self.entry, read(forms["a/full"], TEXT), "a/full", None, forms, makers)
        staying = tuple(maker for maker in makers if ">" in maker[0])
        told = self.hall.end(self.helper)
        self.assertEqual(len(told), 2)
        for _, name, certificate in told:
            self.assertTrue(shows_need(forms, makers, staying, entry, True, name, certificate))

    def test_refused(self):
        for action in (self.hall.clear, self.hall.fall):
            self.refuse(NoDesk, action, "c")
        for action in (self.hall.end, self.hall.crash):
            self.refuse(NoProgram, action, 9)


def told(hall):
    """All that a hall tells without being changed, and which numbers come next."""
    mark = hall.mark()
    rows = [
        hall.desks(), hall.nodes(), hall.linked(), hall.living(), hall.all_makers(), hall.open_documents(),
        hall.all_entries(), hall.log(), [hall.text(number) for number, _, _ in hall.open_documents()],
        [(entry, hall.offered(entry), hall.can_ask(entry)) for entry in hall.all_entries()],
        [(entry, name, hall.ask(entry, name)) for entry in hall.all_entries() for name in hall.can_ask(entry)],
        hall.log(),
    ]
    if hall.desks():
        program = hall.begin(hall.desks()[0], "new", "")
        document = hall.open_document(program, "plain", "")
        rows += [program, document, hall.copy(document, ("lines", 0, 0), None)]
    hall.back(mark)
    return rows


class Marks(Case):
    def changes(self):
        """Things that can be done one behind another, from here on."""
        hall = self.hall
        return [
            lambda: hall.set_up("c"), lambda: hall.link("b", "c", 2),
            lambda: hall.begin("c", "new", "form new slant _ escape !"),
            lambda: hall.open_document(4, "new", "_x_"), lambda: hall.copy(2, ("lines", 0, 0), None),
            lambda: hall.edit(1, ("enter", 0, 0, 0, "y", NO)), lambda: hall.ask(1, "b/star"), lambda: hall.end(1),
            lambda: hall.close(2), lambda: hall.unlink("a", "b"), lambda: hall.drop(2), lambda: hall.crash(3),
            lambda: hall.cut("b", "c"), lambda: hall.clear("a"), lambda: hall.fall("c"), lambda: hall.set_up("a"),
        ]

    def test_numbers(self):
        self.assertEqual([self.hall.mark() for _ in range(3)], [0, 1, 2])
        self.assertIsNone(self.hall.back(1))
        self.assertEqual([self.hall.mark(), self.hall.mark()], [2, 3])
        self.hall.back(0)
        self.assertEqual(self.hall.mark(), 1)

    def test_each_change_is_brought_back(self):
        for at, change in enumerate(self.changes()):
            with self.subTest(at):
                before = told(self.hall)
                mark = self.hall.mark()
                change()
                behind = told(self.hall)
                self.assertNotEqual(behind, before)
                self.hall.back(mark)
                self.assertEqual(told(self.hall), before)
                # From there on all goes as it went.
                change()
                self.assertEqual(told(self.hall), behind)

    def test_several_changes_and_several_marks(self):
        stages = []
        for change in self.changes():
            stages.append((self.hall.mark(), told(self.hall)))
            change()
        for mark, wanted in reversed(stages):
            for _ in range(2):
                self.hall.back(mark)
                self.assertEqual(told(self.hall), wanted)
                self.hall.fall(self.hall.desks()[-1])

    def test_signs_of_a_name_behind_going_back(self):
        mark = self.hall.mark()
        self.hall.begin("a", "new", "form new slant _ escape !")
        self.hall.back(mark)
        self.assertEqual(self.hall.begin("b", "new", "form new slant . escape !"), 4)

    def test_numbers_go_on_as_they_did_at_the_mark(self):
        mark = self.hall.mark()
        for _ in range(3):
            self.assertEqual(self.hall.begin("a", "new", ""), 4)
            self.assertEqual(self.hall.open_document(4, "plain", ""), 2)
            self.assertEqual(self.hall.copy(2, ("lines", 0, 0), None), 2)
            self.hall.back(mark)

    def test_no_mark(self):
        self.hall.mark()
        self.hall.mark()
        self.hall.back(0)
        for thing in objects_of_all_kinds()[1:] + [1, 2, True, None, "0", (0,), [0]]:
            self.refuse(NoMark, self.hall.back, thing)
        with self.assertRaises(NoMark):
            Hall().back(0)
