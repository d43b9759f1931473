"""Points 2, 17 and 18: entries, what they offer, and what texts at hand give."""

import copy
import unittest

from clipforms.contents import keep, used
from clipforms.ends import crashed
from clipforms.entries import Entry, asked, gives
from clipforms.errors import ClipError, NoForm, NotMakable
from clipforms.makers import best
from tests.samples import (
    ALL_FEATURES, FEATURES_OF, RICH, SMALL, USE_ALONE, feature_sets, form_carrying, forms_named, led_to, many_contents,
    random_graph, state,
)

FORMS = forms_named("full", "star", "dot", "cell")
MAKERS = (("a", "full", "star", 1), ("b", "star", "plain", 1), ("c", "cell", "dot", 1), ("d", "full", "plain", 9))


class Fields(unittest.TestCase):
    def test_of_a_new_entry(self):
        entry = Entry(7, SMALL, "full", ("plain", "star"), FORMS, MAKERS)
        dues = {"plain": (), "star": ("bold",)}
        self.assertEqual(state(entry), [7, SMALL, "full", ALL_FEATURES, dues, (), True, ["plain", "star"]])
        self.assertIs(entry.is_owned, True)
        self.assertIsInstance(entry.texts, tuple)
        self.assertIs(type(entry.dues), dict)

    def test_features_are_those_that_the_content_uses(self):
        for features in feature_sets():
            content = keep(SMALL, features)
            entry = Entry(1, content, "full", None, FORMS, MAKERS)
            self.assertEqual(entry.features, features)
            self.assertEqual(entry.content, content)
            self.assertEqual(entry.dues["full"], features)
            self.assertEqual(entry.dues["star"], tuple(one for one in features if one == "bold"))

    def test_contents(self):
        for content in many_contents():
            entry = Entry(1, content, "full", ("full",), FORMS, ())
            self.assertEqual((entry.content, entry.features), (content, used(content)))
            self.assertEqual(entry.dues, {"full": used(content)})

    def test_numbers(self):
        for number in (1, 2, 40, 10 ** 20):
            self.assertEqual(Entry(number, SMALL, "full", None, FORMS, MAKERS).number, number)

    def test_own_form(self):
        for own, content in (("star", USE_ALONE[("bold",)]), ("plain", USE_ALONE[()]), ("cell", USE_ALONE[("cells",)])):
            entry = Entry(1, content, own, (own,), FORMS, MAKERS)
            self.assertEqual((entry.own, entry.features, entry.dues), (own, used(content), {own: used(content)}))


class Offers(unittest.TestCase):
    def offered(self, offer, own="full", content=SMALL, makers=MAKERS):
        return list(Entry(1, content, own, offer, FORMS, makers).dues.items())

    def test_any_order(self):
        self.assertEqual(self.offered(("plain", "full", "star")), [
            ("plain", ()), ("full", ALL_FEATURES), ("star", ("bold",)),
        ])
        self.assertEqual(self.offered(("star", "plain")), [("star", ("bold",)), ("plain", ())])
        self.assertEqual(self.offered(("plain",)), [("plain", ())])

    def test_empty(self):
        self.assertEqual(self.offered(()), [])

    def test_all_that_can_be_made(self):
        all_of_them = [("full", ALL_FEATURES), ("plain", ()), ("star", ("bold",))]
        self.assertEqual(self.offered(None), all_of_them)
        self.assertEqual(self.offered(None, makers=()), [("full", ALL_FEATURES)])
        self.assertEqual(self.offered(None, "star", USE_ALONE[("bold",)]), [("plain", ()), ("star", ("bold",))])
        self.assertEqual(self.offered(None, "cell", USE_ALONE[()]), [("cell", ()), ("dot", ())])
        self.assertEqual(self.offered(None, "dot", USE_ALONE[()]), [("dot", ())])

    def test_due_is_what_the_best_chain_keeps(self):
        for seed in range(100):
            _, forms, makers = random_graph(seed)
            for own in forms:
                content = keep(SMALL, FEATURES_OF[own])
                entry = Entry(1, content, own, None, forms, makers)
                self.assertEqual(list(entry.dues), list(led_to(makers, (own,))))
                for form, due in entry.dues.items():
                    self.assertEqual(due, best(forms, makers, own, used(content), form)[1])

    def test_only_used_features_are_due(self):
        forms = forms_named("full", "all")
        makers = (("a", "full", "all", 1),)
        for features in feature_sets():
            entry = Entry(1, keep(SMALL, features), "full", ("all",), forms, makers)
            self.assertEqual(entry.dues, {"all": features})

    def test_the_best_chain_and_not_the_cheapest_one(self):
        forms = forms_named("full", "all", "cell")
        makers = (("a", "full", "cell", 0), ("b", "cell", "all", 0), ("c", "full", "all", 1000))
        entry = Entry(1, SMALL, "full", None, forms, makers)
        self.assertEqual(entry.dues, {"all": ALL_FEATURES, "cell": ("cells",), "full": ALL_FEATURES})


class Refusals(unittest.TestCase):
    def refused(self, offer, own="full", makers=MAKERS):
        with self.assertRaises(ClipError) as caught:
            Entry(1, SMALL if own == "full" else USE_ALONE[()], own, offer, FORMS, makers)
        return caught.exception

    def test_no_form(self):
        for offer in (("none",), ("plain", "none"), ("none", "plain"), ("",), ("Plain",), ("plain ",), ("a",)):
            self.assertIs(type(self.refused(offer)), NoForm, offer)

    def test_not_makable(self):
        error = self.refused(("dot",))
        self.assertIs(type(error), NotMakable)
        self.assertEqual((error.form, error.closed), ("dot", ("full", "plain", "star")))
        error = self.refused(("full", "plain"), "plain")
        self.assertEqual((error.form, error.closed), ("full", ("plain",)))
        error = self.refused(("plain", "star", "full"), "star", MAKERS[1:])
        self.assertEqual((error.form, error.closed), ("full", ("plain", "star")))

    def test_the_first_of_the_offer(self):
        error = self.refused(("plain", "dot", "cell"))
        self.assertEqual((error.form, error.closed), ("dot", ("full", "plain", "star")))
        error = self.refused(("cell", "plain", "dot"))
        self.assertEqual((error.form, error.closed), ("cell", ("full", "plain", "star")))

    def test_no_form_goes_ahead(self):
        for offer in (("dot", "none"), ("none", "dot"), ("dot", "plain", "cell", "none")):
            self.assertIs(type(self.refused(offer)), NoForm, offer)

    def test_makers_count_by_their_direction(self):
        error = self.refused(("full",), "star", (("a", "full", "star", 0),))
        self.assertEqual((error.form, error.closed), ("full", ("star",)))


class Given(unittest.TestCase):
    """What gives: texts with all that is due, and makers between forms that carry it."""

    def gives(self, makers, entry, forms=FORMS):
        return {form: gives(forms, makers, entry, form) for form in entry.dues}

    def test_the_own_text(self):
        entry = Entry(1, SMALL, "full", None, FORMS, MAKERS)
        self.assertEqual(self.gives(MAKERS, entry), {"full": True, "plain": True, "star": True})
        self.assertEqual(self.gives((), entry), {"full": True, "plain": False, "star": False})
        self.assertEqual(self.gives(MAKERS[1:], entry), {"full": True, "plain": True, "star": False})
        self.assertEqual(self.gives(MAKERS[1:3], entry), {"full": True, "plain": False, "star": False})

    def test_without_the_own_text(self):
        entry = Entry(1, SMALL, "full", None, FORMS, MAKERS)
        later = crashed(asked(FORMS, MAKERS, entry, "star")[2], False)
        self.assertEqual(self.gives(MAKERS, crashed(entry, False)), {"full": False, "plain": False, "star": False})
        self.assertEqual(self.gives(MAKERS, later), {"full": False, "plain": True, "star": True})
        self.assertEqual(self.gives((), later), {"full": False, "plain": False, "star": True})

    def test_a_text_lacks_what_is_due(self):
        forms = forms_named("full", "all", "cell", "page")
        first = (("a", "full", "page", 1), ("b", "full", "all", 1), ("c", "page", "all", 0))
        entry = Entry(1, SMALL, "full", None, forms, first)
        self.assertEqual(entry.dues["page"], ("cells", "bold", "slant"))
        later = crashed(asked(forms, first, entry, "page")[2], False)
        # Its way to the form all is there, but nest and link are gone on it.
        self.assertEqual(self.gives(first, later, forms), {"all": False, "full": False, "page": True})

    def test_a_form_on_the_way_lacks_what_is_due(self):
        forms = forms_named("star", "dot", "cell")
        entry = Entry(1, USE_ALONE[("bold",)], "star", None, forms, (("a", "star", "dot", 5),))
        around = (("b", "star", "cell", 0), ("c", "cell", "dot", 0))
        self.assertEqual(self.gives(around, entry, forms), {"dot": False, "star": True})
        entry = Entry(1, USE_ALONE[("bold",)], "star", None, forms, around)
        self.assertEqual(entry.dues, {"cell": (), "dot": (), "star": ("bold",)})
        self.assertEqual(self.gives(around, entry, forms), {"cell": True, "dot": True, "star": True})

    def test_answers_are_bools(self):
        entry = Entry(1, SMALL, "full", None, FORMS, MAKERS)
        self.assertIs(gives(FORMS, MAKERS, entry, "plain"), True)
        self.assertIs(gives(FORMS, (), entry, "plain"), False)


class Unchanged(unittest.TestCase):
    def test_what_is_passed_is_not_modified(self):
        forms, makers = dict(FORMS), MAKERS
        entry = Entry(1, RICH, "full", None, forms, makers)
        gives(forms, makers, entry, "plain")
        self.assertEqual((list(forms.items()), makers), (list(FORMS.items()), MAKERS))

    def test_what_is_passed_may_be_changed_afterwards(self):
        forms = dict(FORMS)
        entry = Entry(1, SMALL, "full", ("star", "plain"), forms, MAKERS)
        before = copy.deepcopy(state(entry))
        forms.clear()
        forms["star"] = ("star",) + form_carrying(())[1:]
        self.assertEqual(state(entry), before)
        self.assertEqual(asked(FORMS, MAKERS, entry, "star")[0], "a*b* c*d*!*|!!\n")

    def test_dues_of_two_entries_are_two_dicts(self):
        one = Entry(1, SMALL, "full", None, FORMS, MAKERS)
        other = Entry(1, SMALL, "full", None, FORMS, MAKERS)
        one.dues.clear()
        self.assertEqual(list(other.dues), ["full", "plain", "star"])
