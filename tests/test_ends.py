"""Points 2, 21 and 22: lost forms, which ones are made before an end, and what is behind ends and crashes."""

import copy
import unittest

from clipforms.contents import keep
from clipforms.ends import crashed, ended, lost_forms, shows_need, to_make
from clipforms.entries import Entry, asked, gives
from clipforms.forms import write
from tests.samples import ALL_FEATURES, FEATURES_OF, SMALL, forms_named, state

FORMS = forms_named("full", "all", "star", "dot", "cell", "page", "note", "tree")


class Case(unittest.TestCase):
    forms = FORMS

    def entry(self, makers, own="full", offer=None):
        return Entry(1, keep(SMALL, FEATURES_OF[own]), own, offer, self.forms, makers)

    def made(self, makers, staying, entry, stays_owned):
        """The forms that are made before the end, after a look at all that goes with it."""
        before = copy.deepcopy(state(entry))
        pairs = to_make(self.forms, makers, staying, entry, stays_owned)
        rows, later = ended(self.forms, makers, staying, entry, stays_owned)
        self.assertEqual(state(entry), before)
        self.assertIsInstance(pairs, tuple)
        self.assertIsInstance(rows, tuple)
        forms = [form for form, _ in pairs]
        texts, now = [], entry
        for form in forms:
            if form == now.own and now.is_owned:
                texts.append((now.own, now.features))
            more = asked(self.forms, makers, now, form)[1]
            now = asked(self.forms, makers, now, form)[2]
            texts += [row[1:] for row in more]
        self.assertEqual(len(rows) + forms.count(entry.own if entry.is_owned else ""), len(texts))
        expected = before[:5] + [entry.texts + tuple(texts), entry.is_owned and stays_owned] + before[7:]
        self.assertEqual(state(later), expected)
        for form, certificate in pairs:
            shows = shows_need(self.forms, makers, staying, entry, stays_owned, form, certificate)
            self.assertIs(shows, True)
        return forms, rows, later


class Lost(Case):
    makers = (("a", "full", "star", 1), ("b", "star", "plain", 1), ("c", "full", "cell", 1), ("d", "cell", "plain", 5))

    def lost(self, staying, stays_owned, entry=None, makers=None):
        entry = self.entry(self.makers) if entry is None else entry
        makers = self.makers if makers is None else makers
        forms = lost_forms(self.forms, makers, staying, entry, stays_owned)
        self.assertIsInstance(forms, tuple)
        return forms

    def test_nothing_goes(self):
        self.assertEqual(self.lost(self.makers, True), ())

    def test_makers_go_and_the_own_text_stays(self):
        self.assertEqual(self.lost((), True), ("cell", "plain", "star"))
        self.assertEqual(self.lost(self.makers[1:], True), ("star",))
        self.assertEqual(self.lost(self.makers[1:3], True), ("plain", "star"))
        self.assertEqual(self.lost(self.makers[:3], True), ())
        self.assertEqual(self.lost(self.makers[:2], True), ("cell",))

    def test_the_own_text_goes(self):
        self.assertEqual(self.lost(self.makers, False), ("cell", "full", "plain", "star"))
        self.assertEqual(self.lost((), False), ("cell", "full", "plain", "star"))

    def test_in_the_order_of_the_offer(self):
        for offer in (("star", "full", "plain", "cell"), ("plain", "cell", "star"), ("cell",), ()):
            entry = self.entry(self.makers, offer=offer)
            self.assertEqual(self.lost((), False, entry), offer)
            self.assertEqual(self.lost((), True, entry), tuple(form for form in offer if form != "full"))

    def test_made_texts_stay(self):
        entry = asked(self.forms, self.makers, self.entry(self.makers), "star")[2]
        self.assertEqual(self.lost((), False, entry), ("cell", "full", "plain"))
        self.assertEqual(self.lost(self.makers, False, entry), ("cell", "full"))
        self.assertEqual(self.lost(self.makers[2:], True, entry), ())
        self.assertEqual(self.lost(self.makers[2:3], True, entry), ("plain",))

    def test_what_is_gone_already_is_not_lost(self):
        entry = crashed(asked(self.forms, self.makers, self.entry(self.makers), "star")[2], False)
        self.assertEqual(self.lost((), False, entry), ("plain",))
        self.assertEqual(self.lost((), False, entry, ()), ())
        self.assertEqual(self.lost((), False, crashed(self.entry(self.makers), False)), ())

    def test_an_own_text_that_is_gone_does_not_stay(self):
        entry = crashed(asked(self.forms, self.makers, self.entry(self.makers), "star")[2], False)
        self.assertEqual(self.lost((), True, entry), ("plain",))
        self.assertEqual(self.lost(self.makers[2:], True, entry), ("plain",))

    def test_a_way_that_loses_what_is_due_does_not_count(self):
        makers = (("a", "full", "dot", 1), ("b", "full", "cell", 1), ("c", "cell", "dot", 1))
        entry = self.entry(makers)
        self.assertEqual(self.lost(makers[1:], True, entry, makers), ("dot",))
        other = self.entry(makers[1:])
        self.assertEqual(self.lost(makers[1:], True, other, makers), ())

    def test_a_text_that_lacks_what_is_due_does_not_count(self):
        makers = (("a", "full", "cell", 0), ("b", "cell", "page", 0), ("c", "page", "star", 0), ("d", "full", "star", 9))
        entry = asked(self.forms, makers, self.entry(makers), "page")[2]
        self.assertEqual(entry.texts, (("cell", ("cells",)), ("page", ("cells",))))
        self.assertEqual(self.lost(makers[:3], True, entry, makers), ("star",))


class Made(Case):
    def test_nothing_lost(self):
        makers = (("a", "full", "star", 1),)
        entry = self.entry(makers)
        forms, rows, later = self.made(makers, makers, entry, True)
        self.assertEqual((forms, rows, later.texts, later.is_owned), ([], (), (), True))

    def test_one_form_that_gives_the_others(self):
        makers = (("a", "full", "star", 1), ("b", "star", "plain", 1), ("c", "star", "dot", 1))
        entry = self.entry(makers, offer=("plain", "dot", "star"))
        forms, rows, later = self.made(makers, makers[1:], entry, False)
        self.assertEqual((forms, rows), (["star"], (("a", "star", ("bold",)),)))
        self.assertEqual((later.texts, later.is_owned), ((("star", ("bold",)),), False))
        certificate = (("star",), ("star",))
        self.assertEqual(to_make(self.forms, makers, makers[1:], entry, False), (("star", certificate),))

    def test_forms_that_do_not_give_one_another(self):
        makers = (("a", "full", "star", 1), ("b", "full", "dot", 1), ("c", "full", "cell", 1))
        entry = self.entry(makers, offer=("star", "cell", "dot"))
        pairs = tuple((form, ((form,), (form,))) for form in ("star", "cell", "dot"))
        self.assertEqual(to_make(self.forms, makers, (), entry, True), pairs)
        forms, rows, later = self.made(makers, (), entry, True)
        self.assertEqual(forms, ["star", "cell", "dot"])
        self.assertEqual(rows, (("a", "star", ("bold",)), ("c", "cell", ("cells",)), ("b", "dot", ("bold",))))
        self.assertIs(later.is_owned, True)

    def test_several_in_one_class_the_first_of_the_offer(self):
        makers = (
            ("a", "full", "star", 1), ("b", "star", "dot", 1), ("c", "dot", "note", 1), ("d", "note", "star", 1),
            ("e", "dot", "plain", 1),
        )
        group = (("dot", "note", "star"), ("dot", "note", "star"))
        for offer, first in (
            (("star", "dot", "note"), "star"), (("dot", "note", "star"), "dot"), (("note", "star", "dot"), "note"),
            (("plain", "note", "dot", "star"), "note"),
        ):
            entry = self.entry(makers, offer=offer)
            self.assertEqual(entry.dues["note"], ("bold",))
            self.assertEqual(to_make(self.forms, makers, makers[1:], entry, False), ((first, group),))
            self.assertEqual(self.made(makers, makers[1:], entry, False)[0], [first])

    def test_a_class_that_another_form_gives_is_not_made(self):
        makers = (
            ("a", "full", "page", 1), ("b", "page", "star", 1), ("c", "star", "dot", 1), ("d", "dot", "star", 1),
        )
        for offer in (("star", "dot", "page"), ("page", "dot", "star")):
            entry = self.entry(makers, offer=offer)
            expected = (("page", (("page",), ("page",))),)
            self.assertEqual(to_make(self.forms, makers, makers[1:], entry, False), expected)

    def test_a_form_that_keeps_less_gives_none_that_keeps_more(self):
        makers = (("a", "full", "star", 1), ("b", "full", "cell", 1), ("c", "cell", "page", 0), ("d", "page", "star", 0))
        entry = self.entry(makers, offer=("page", "star"))
        self.assertEqual(entry.dues, {"page": ("cells",), "star": ("bold",)})
        pairs = to_make(self.forms, makers, makers[3:], entry, False)
        self.assertEqual(pairs, (("page", (("page",), ("page",))), ("star", (("star",), ("page", "star")))))
        # By its due text the form page would not give star, but the text that is made of it does.
        self.assertEqual(self.made(makers, makers[3:], entry, False)[0], ["page", "star"])

    def test_a_way_back_of_the_closed_set(self):
        makers = (
            ("a", "full", "star", 1), ("b", "note", "star", 1), ("c", "page", "note", 1), ("d", "cell", "star", 1),
            ("e", "star", "dot", 1), ("f", "all", "page", 0),
        )
        entry = self.entry(makers, offer=("dot", "star"))
        certificate = (("star",), ("all", "note", "page", "star"))
        self.assertEqual(to_make(self.forms, makers, makers[1:], entry, False), (("star", certificate),))

    def test_the_own_text_is_kept(self):
        entry = self.entry((), offer=("full",))
        forms, rows, later = self.made((), (), entry, False)
        self.assertEqual((forms, rows), (["full"], ()))
        self.assertEqual((later.texts, later.is_owned), ((("full", ALL_FEATURES),), False))
        self.assertEqual(asked(self.forms, (), later, "full")[:2], (write(self.forms["full"], SMALL), ()))

    def test_the_own_text_is_kept_where_it_stands_in_the_offer(self):
        makers = (("a", "full", "star", 1), ("b", "full", "plain", 1))
        own, star, plain = ("full", ALL_FEATURES), ("star", ("bold",)), ("plain", ())
        for offer, texts in (
            (("full", "star", "plain"), (own, star, plain)), (("star", "full", "plain"), (star, own, plain)),
            (("plain", "star", "full"), (plain, star, own)),
        ):
            entry = self.entry(makers, offer=offer)
            forms, rows, later = self.made(makers, (), entry, False)
            self.assertEqual((forms, later.texts), (list(offer), texts))
            self.assertEqual([row[0] for row in rows], [{"star": "a", "plain": "b"}[f] for f in offer if f != "full"])

    def test_the_own_text_is_not_kept_if_its_form_is_not_made(self):
        makers = (("a", "full", "all", 1), ("b", "all", "full", 1))
        entry = self.entry(makers, offer=("all", "full"))
        forms, rows, later = self.made(makers, makers[1:], entry, False)
        self.assertEqual((forms, rows), (["all"], (("a", "all", ALL_FEATURES),)))
        self.assertEqual(later.texts, (("all", ALL_FEATURES),))
        entry = self.entry(makers, offer=("full", "all"))
        forms, rows, later = self.made(makers, makers, entry, False)
        self.assertEqual((forms, rows, later.texts), (["full"], (), (("full", ALL_FEATURES),)))

    def test_the_own_text_gives_others_by_the_makers_that_stay(self):
        makers = (("a", "full", "star", 1), ("b", "star", "plain", 1))
        entry = self.entry(makers)
        forms, rows, later = self.made(makers, makers, entry, False)
        self.assertEqual((forms, rows, later.texts), (["full"], (), (("full", ALL_FEATURES),)))
        self.assertEqual(asked(self.forms, makers, later, "plain")[1], (("a", "star", ("bold",)), ("b", "plain", ())))

    def test_the_own_text_that_stays_is_not_kept_again(self):
        makers = (("a", "full", "star", 1),)
        entry = self.entry(makers)
        forms, rows, later = self.made(makers, (), entry, True)
        self.assertEqual((forms, rows), (["star"], (("a", "star", ("bold",)),)))
        self.assertEqual((later.texts, later.is_owned), ((("star", ("bold",)),), True))

    def test_by_all_known_makers_and_texts_made_before(self):
        makers = (("a", "full", "dot", 2), ("b", "dot", "star", 0), ("c", "full", "star", 3), ("d", "full", "plain", 9))
        entry = self.entry(makers, offer=("dot", "star", "plain"))
        forms, rows, later = self.made(makers, (), entry, True)
        self.assertEqual(forms, ["dot", "star", "plain"])
        self.assertEqual([row[0] for row in rows], ["a", "b", "d"])
        entry = self.entry(makers, offer=("star", "dot"))
        self.assertEqual([row[0] for row in self.made(makers, (), entry, True)[1]], ["a", "b"])

    def test_which_ones_are_made_is_fixed_before(self):
        makers = (("a", "full", "dot", 2), ("b", "dot", "star", 0))
        entry = self.entry(makers, offer=("star", "dot"))
        # The text in the form dot is made on the way to star; dot is asked all the same.
        forms, rows, _ = self.made(makers, (), entry, True)
        self.assertEqual((forms, [row[0] for row in rows]), (["star", "dot"], ["a", "b"]))

    def test_made_texts_that_stay(self):
        makers = (("a", "full", "star", 1), ("b", "star", "plain", 1), ("c", "full", "cell", 1))
        entry = asked(self.forms, makers, self.entry(makers), "star")[2]
        forms, rows, later = self.made(makers, makers[1:2], entry, False)
        self.assertEqual((forms, rows), (["cell", "full"], (("c", "cell", ("cells",)),)))
        texts = (("star", ("bold",)), ("cell", ("cells",)), ("full", ALL_FEATURES))
        self.assertEqual(later.texts, texts)

    def test_an_own_text_that_is_gone_does_not_come_back(self):
        makers = (("a", "full", "star", 1), ("b", "star", "plain", 1))
        entry = crashed(asked(self.forms, makers, self.entry(makers), "star")[2], False)
        for stays_owned in (True, False):
            forms, rows, later = self.made(makers, (), entry, stays_owned)
            self.assertEqual((forms, rows), (["plain"], (("b", "plain", ()),)))
            self.assertEqual((later.texts, later.is_owned), ((("star", ("bold",)), ("plain", ())), False))

    def test_the_own_form_of_an_own_text_that_is_gone(self):
        makers = (("a", "full", "star", 1), ("b", "star", "plain", 1), ("c", "plain", "full", 1))
        entry = Entry(1, keep(SMALL, ()), "full", ("star", "full"), self.forms, makers)
        entry = crashed(asked(self.forms, makers, entry, "star")[2], False)
        self.assertEqual(lost_forms(self.forms, makers, (), entry, True), ("full",))
        # Makers make it; what was the own text does not come back.
        forms, rows, later = self.made(makers, (), entry, True)
        self.assertEqual((forms, rows), (["full"], (("b", "plain", ()), ("c", "full", ()))))
        self.assertEqual(later.texts, (("star", ()), ("plain", ()), ("full", ())))


class Crashes(Case):
    makers = (("a", "full", "star", 1), ("b", "star", "plain", 1))

    def test_nothing_is_made(self):
        for texts in (False, True):
            entry = self.entry(self.makers)
            if texts:
                entry = asked(self.forms, self.makers, entry, "plain")[2]
            before = copy.deepcopy(state(entry))
            for stays_owned in (True, False):
                later = crashed(entry, stays_owned)
                self.assertEqual(state(later), before[:6] + [stays_owned] + before[7:])
                self.assertIs(later.is_owned, stays_owned)
                self.assertEqual(state(entry), before)

    def test_an_own_text_that_is_gone_does_not_come_back(self):
        later = crashed(crashed(self.entry(self.makers), False), True)
        self.assertIs(later.is_owned, False)

    def test_what_can_be_asked_behind_a_crash(self):
        entry = asked(self.forms, self.makers, self.entry(self.makers), "star")[2]
        later = crashed(entry, False)
        self.assertEqual([gives(self.forms, self.makers, later, form) for form in later.dues], [False, True, True])
        self.assertEqual([gives(self.forms, (), later, form) for form in later.dues], [False, False, True])


class Unchanged(Case):
    makers = (("a", "full", "star", 1), ("b", "star", "plain", 1))

    def test_entries_do_not_share_what_can_be_changed(self):
        for stays_owned in (True, False):
            entry = self.entry(self.makers)
            before = copy.deepcopy(state(entry))
            for later in (
                crashed(entry, stays_owned), ended(self.forms, self.makers, (), entry, stays_owned)[1],
                ended(self.forms, self.makers, self.makers, entry, stays_owned)[1],
            ):
                self.assertIs(type(later), Entry)
                self.assertIsNot(later, entry)
                later.dues.clear()
                self.assertEqual(state(entry), before)

    def test_forms_and_makers(self):
        forms = dict(FORMS)
        entry = self.entry(self.makers)
        before = copy.deepcopy(state(entry))
        for stays_owned in (True, False):
            lost_forms(forms, self.makers, self.makers[1:], entry, stays_owned)
            to_make(forms, self.makers, self.makers[1:], entry, stays_owned)
            ended(forms, self.makers, self.makers[1:], entry, stays_owned)
        self.assertEqual(list(forms.items()), list(FORMS.items()))
        self.assertEqual(state(entry), before)
