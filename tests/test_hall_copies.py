"""Points 11, 12, 17 to 20, 28 and 29: copies in a hall, what they offer, asking late, and the log."""

import unittest

from clipforms.errors import Gone, NoDocument, NoForm, NoPlace, NotMakable, NotOffered, TooMany
from clipforms.hall import Hall
from tests.samples import NO, inside

FULL = "form full cell | level > bold * slant _ link [ : ] escape !"
STAR = "form star bold * escape !"
CELL = "form cell cell | escape !"
TEXT = ">a*b*|c\n_d_"


class Case(unittest.TestCase):
    def setUp(self):
        """Desks a, b and c in a row; b knows no form that keeps cells and depths."""
        self.hall = hall = Hall()
        for name in "abc":
            hall.set_up(name)
        hall.link("a", "b", 3)
        hall.link("b", "c", 4)
        self.one = hall.begin("a", "pad", f"{FULL}\n{STAR}\nmaker m from full to star cost 1\n"
                                          "maker n from star to plain cost 1")
        self.two = hall.begin("b", "pen", f"{STAR}\nmaker m from star to plain cost 9")
        self.three = hall.begin("c", "pot", f"{STAR}\n{CELL}\n{FULL}\nmaker k from star to cell cost 2")
        self.document = hall.open_document(self.one, "full", TEXT)

    def copy(self, offer=None, selection=("lines", 0, 1), document=None):
        return self.hall.copy(document or self.document, selection, offer)

    def refuse(self, error, action, *arguments):
        before = inside(self.hall)
        with self.assertRaises(error) as caught:
            action(*arguments)
        self.assertEqual(inside(self.hall), before)
        return caught.exception


class Offers(Case):
    def test_all_nodes_to_which_there_is_a_chain(self):
        self.assertEqual(self.hall.offered(self.copy()), [
            ("a/full", ("cells", "nest", "bold", "slant")), ("a/plain", ()), ("a/star", ("bold",)), ("b/plain", ()),
            ("b/star", ("bold",)), ("c/cell", ()), ("c/plain", ()), ("c/star", ("bold",)),
        ])

    def test_what_is_carried_straight(self):
        self.hall.link("a", "c", 1000)
        offered = dict(self.hall.offered(self.copy()))
        self.assertEqual(offered["c/full"], ("cells", "nest", "bold", "slant"))
        self.assertEqual(offered["c/cell"], ())

    def test_an_offer_in_any_order(self):
        for offer in (("c/star", "a/plain", "a/full"), ("b/plain",), ()):
            entry = self.copy(offer)
            self.assertEqual([name for name, _ in self.hall.offered(entry)], list(offer))
            self.assertEqual(self.hall.can_ask(entry), list(offer))

    def test_numbers_and_drops(self):
        self.assertEqual([self.copy() for _ in range(3)], [1, 2, 3])
        self.assertIsNone(self.hall.drop(2))
        self.hall.drop(3)
        self.assertEqual(self.hall.all_entries(), [1])
        self.assertEqual(self.copy(), 4)
        self.assertEqual(self.hall.all_entries(), [1, 4])

    def test_forty(self):
        for number in range(1, 41):
            self.assertEqual(self.copy(("a/full",)), number)
        self.assertEqual(self.refuse(TooMany, self.copy).limit, 40)
        self.refuse(NoPlace, self.copy, None, ("lines", 0, 2))
        self.refuse(NoForm, self.copy, ("a/none",))
        self.refuse(NotMakable, self.copy, ("a/plain", "c/full"))
        self.hall.drop(17)
        self.assertEqual(self.copy(), 41)

    def test_refused(self):
        copy = self.hall.copy
        self.refuse(NoDocument, copy, 2, ("lines", 5, 5), ("none",))
        for selection in (("lines", 0, 2), ("range", 0, 0, 1, 1), ("range", 2, 0, 0, 1)):
            self.refuse(NoPlace, copy, self.document, selection, ("none",))
        for offer in (("a/full", "none"), ("c/full", "a/none"), ("full",), ("d/plain",), ("b/full",), ("a/m",)):
            self.refuse(NoForm, copy, self.document, ("lines", 0, 0), offer)
        error = self.refuse(NotMakable, copy, self.document, ("lines", 0, 0), ("c/cell", "c/full", "c/star"))
        self.assertEqual(error.form, "c/full")
        self.assertEqual(
            error.closed, ("a/full", "a/plain", "a/star", "b/plain", "b/star", "c/cell", "c/plain", "c/star"),
        )

    def test_selections(self):
        for selection, text in (
            (("lines", 1, 1), "_d_"), (("range", 0, 0, 1, 2), "*b*"), (("range", 0, 0, 0, 2), "a*b*"),
        ):
            self.assertEqual(self.hall.ask(self.copy(None, selection), "a/full"), text)

    def test_copies_at_other_desks(self):
        document = self.hall.open_document(self.two, "star", "x*y*")
        entry = self.copy(None, ("lines", 0, 0), document)
        self.assertEqual([name for name, _ in self.hall.offered(entry)], [
            "a/plain", "a/star", "b/plain", "b/star", "c/cell", "c/plain", "c/star",
        ])
        self.assertEqual(self.hall.ask(entry, "c/cell"), "xy")
        self.assertEqual(self.hall.log(), [
            (entry, "b>c/star", "c/star", ("bold",)), (entry, "c/k", "c/cell", ()),
        ])


class Asking(Case):
    def test_texts(self):
        entry = self.copy()
        self.assertEqual([self.hall.ask(entry, name) for name, _ in self.hall.offered(entry)], [
            TEXT, "ab c\nd", "a*b* c\nd", "ab c\nd", "a*b* c\nd", "ab c\nd", "ab c\nd", "a*b* c\nd",
        ])

    def test_the_log(self):
        entry = self.copy()
        self.hall.ask(entry, "b/plain")
        self.assertEqual(self.hall.log(), [
            (1, "a/m", "a/star", ("bold",)), (1, "a/n", "a/plain", ()), (1, "a>b/plain", "b/plain", ()),
        ])
        self.hall.ask(entry, "c/star")
        self.assertEqual(self.hall.log()[3:], [
            (1, "a>b/star", "b/star", ("bold",)), (1, "b>c/star", "c/star", ("bold",)),
        ])
        self.hall.ask(entry, "c/plain")
        self.assertEqual(self.hall.log()[5:], [(1, "b>c/plain", "c/plain", ())])
        for name, _ in self.hall.offered(entry):
            self.hall.ask(entry, name)
        made = [row[2:] for row in self.hall.log()]
        self.assertEqual(len(set(made)), len(made))
        self.assertEqual(self.hall.log()[6:], [(1, "c/k", "c/cell", ())])

    def test_the_least_chain(self):
        for cost, names in (
            (0, ["a/m", "a/n", "a>b/plain"]), (3, ["a/m", "a/n", "a>b/plain"]),
            (4, ["a/m", "a/n", "a>c/plain", "c>b/plain"]),
        ):
            hall = Hall()
            for name in "abc":
                hall.set_up(name)
            hall.link("b", "a", cost)
            hall.link("c", "a", 1)
            hall.link("b", "c", 2)
            program = hall.begin("a", "pad", f"{STAR}\nform full level > escape !\nmaker m from full to star cost 0\n"
                                             "maker n from star to plain cost 0")
            entry = hall.copy(hall.open_document(program, "full", ">a"), ("lines", 0, 0), None)
            hall.ask(entry, "b/plain")
            self.assertEqual([row[1] for row in hall.log()], names)

    def test_whatever_becomes_of_the_document(self):
        entry = self.copy()
        self.hall.edit(self.document, ("enter", 0, 0, 0, "x", NO))
        self.assertEqual(self.hall.ask(entry, "a/full"), TEXT)
        self.hall.close(self.document)
        self.assertEqual(self.hall.ask(entry, "c/plain"), "ab c\nd")

    def test_not_offered(self):
        entry = self.copy(("a/full", "b/plain"))
        for name in ("a/plain", "plain", "full", "", "d/plain", "a/full/"):
            self.refuse(NotOffered, self.hall.ask, entry, name)

    def test_gone_and_had_again(self):
        entry = self.copy()
        self.assertEqual(self.hall.ask(entry, "b/star"), "a*b* c\nd")
        self.hall.crash(self.one)
        left = ["a/plain", "a/star", "b/plain", "b/star", "c/cell", "c/plain", "c/star"]
        self.assertEqual(self.hall.can_ask(entry), left)
        self.hall.cut("b", "c")
        self.assertEqual(self.hall.can_ask(entry), ["a/plain", "a/star", "b/plain", "b/star"])
        self.assertEqual(self.refuse(Gone, self.hall.ask, entry, "a/full").closed, ())
        self.assertEqual(
            self.refuse(Gone, self.hall.ask, entry, "c/plain").closed, ("a/plain", "a/star", "b/plain", "b/star"),
        )
        self.assertEqual(self.refuse(Gone, self.hall.ask, entry, "c/star").closed, ("a/star", "b/star"))
        self.hall.link("c", "a", 1)
        self.assertEqual(self.hall.ask(entry, "c/star"), "a*b* c\nd")
        self.assertEqual(self.hall.log()[2:], [(entry, "a>c/star", "c/star", ("bold",))])
