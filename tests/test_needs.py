"""Points 2 and 22: the certificates of lost forms among all objects."""

import copy
import unittest

from clipforms.contents import keep
from clipforms.ends import crashed, ended, lost_forms, shows_need, to_make
from clipforms.entries import Entry, asked
from tests.samples import (
    FEATURES_OF, SMALL, all_changes, forms_named, going, led_to, objects_of_all_kinds, random_graph, state,
)

FORMS = forms_named("full", "all", "star", "dot", "cell", "page", "note")
OTHERS = (None, "", "plain", "star", "dot", 0, 1, True, (), ("star",), ("dot", "star"), (("star",),), [], {}, {"star": 0})


def is_certificate(forms, makers, staying, entry, stays_owned, form, thing):
    """Point 22, sentence by sentence."""
    lost = lost_forms(forms, makers, staying, entry, stays_owned)
    if form not in lost or not isinstance(thing, tuple) or len(thing) != 2:
        return False
    group, closed = thing
    due = entry.dues[form]
    useful = going(forms, staying, due)

    def one_gives(one, other):
        ways = going(forms, staying, entry.dues[other])
        return set(entry.dues[other]) <= set(entry.dues[one]) and other in led_to(ways, (one,))

    if group != tuple(sorted(other for other in lost if one_gives(other, form) and one_gives(form, other))):
        return False
    if not isinstance(closed, tuple) or not all(isinstance(name, str) and name in forms for name in closed):
        return False
    if list(closed) != sorted(set(closed)) or not set(group) <= set(closed):
        return False
    if any(maker[2] in closed and maker[1] not in closed for maker in useful):
        return False
    if any(name in closed and set(due) <= set(entry.dues[name]) for name in lost if name not in group):
        return False
    own = ((entry.own, entry.features),) if entry.is_owned and stays_owned else ()
    return not any(name in closed and set(due) <= set(features) for name, features in entry.texts + own)


class Case(unittest.TestCase):
    def assert_shows(self, question, form, certificate):
        self.assertIs(shows_need(*question, form, certificate), True, repr(certificate))

    def assert_shows_not(self, question, form, certificate):
        self.assertIs(shows_need(*question, form, certificate), False, repr(certificate)[:500])

    def changes(self, certificate, others=OTHERS):
        """All changes of a certificate that are not it."""
        return [change for change in all_changes(certificate, others) if repr(change) != repr(certificate)]


def question(makers, staying, stays_owned=False, offer=None, asks=(), forms=FORMS, own="full"):
    """What is asked about an entry in the form full."""
    entry = Entry(1, keep(SMALL, FEATURES_OF[own]), own, offer, forms, makers)
    for form in asks:
        entry = asked(forms, makers, entry, form)[2]
    return forms, makers, staying, entry, stays_owned


class OneForm(Case):
    makers = (("a", "full", "star", 1), ("b", "note", "star", 1), ("c", "star", "dot", 1))
    question = question(makers, makers[1:], offer=("dot", "star"))
    certificate = (("star",), ("note", "star"))

    def test_the_certificate(self):
        self.assertEqual(to_make(*self.question), (("star", self.certificate),))
        self.assert_shows(self.question, "star", self.certificate)

    def test_one_thing_changed_at_any_place(self):
        changes = self.changes(self.certificate)
        self.assertGreater(len(changes), 100)
        for change in changes:
            self.assert_shows_not(self.question, "star", change)

    def test_closed_sets(self):
        for closed in (("cell", "note", "star"), ("note", "page", "star"), ("all", "note", "star"),
                       ("cell", "note", "page", "plain", "star"), ("full", "note", "star")):
            self.assert_shows(self.question, "star", (("star",), closed))
        for closed in (
            (), ("star",), ("note",), ("star", "note"), ("note", "star", "star"), ("dot", "note", "star"),
            ("note", "star", "zz"), ("", "note", "star"), ["note", "star"], "star", ("note", "star", None),
        ):
            self.assert_shows_not(self.question, "star", (("star",), closed))

    def test_for_a_form_that_another_one_gives(self):
        for group in (("dot",), ("star",), ("dot", "star"), ()):
            for closed in (("dot",), ("dot", "star"), ("dot", "note", "star"), ("note", "star")):
                self.assert_shows_not(self.question, "dot", (group, closed))

    def test_for_a_form_that_is_not_lost(self):
        for form in ("full", "plain", "note", "none", ""):
            for group in (("star",), (form,), ()):
                for closed in (("note", "star"), (form,), ()):
                    self.assert_shows_not(self.question, form, (group, closed))
        kept = self.question[:2] + (self.makers, self.question[3], True)
        self.assert_shows_not(kept, "star", self.certificate)

    def test_other_makers_that_stay(self):
        for staying, shows in (
            (self.makers[1:], True), (self.makers[1:2], True), (self.makers[2:], True), ((), True),
            (self.makers[:2], True), (self.makers, True),
        ):
            changed = self.question[:2] + (staying,) + self.question[3:]
            # The maker from the form full is a way to the form star, from where nothing stays.
            expected = is_certificate(*changed, "star", self.certificate)
            self.assertIs(shows_need(*changed, "star", self.certificate), expected)
            self.assertIs(expected, shows and ("a", "full", "star", 1) not in staying)
        more = self.makers[1:] + (("d", "page", "note", 0), ("e", "cell", "star", 0), ("f", "dot", "cell", 0))
        makers = self.makers[:1] + more
        changed = question(makers, more, offer=("dot", "star"))
        self.assert_shows_not(changed, "star", self.certificate)
        self.assert_shows(changed, "star", (("star",), ("note", "page", "star")))
        changed = question(makers, more[:2] + more[3:], offer=("dot", "star"))
        self.assert_shows(changed, "star", self.certificate)


class Classes(Case):
    makers = (
        ("a", "full", "star", 1), ("b", "star", "dot", 1), ("c", "dot", "note", 1), ("d", "note", "star", 1),
        ("e", "dot", "plain", 1), ("f", "page", "dot", 1),
    )
    group = ("dot", "note", "star")
    closed = ("dot", "note", "page", "star")

    def test_each_form_of_the_class_has_the_same_one(self):
        for offer in (("star", "dot", "note"), ("note", "dot", "star", "plain"), None):
            for stays_owned in (True, False):
                asks = question(self.makers, self.makers[1:], stays_owned, offer)
                self.assertEqual(dict(to_make(*asks)).get("dot" if offer is None else offer[0]), (self.group, self.closed))
                for form in self.group:
                    self.assert_shows(asks, form, (self.group, self.closed))
                    self.assert_shows_not(asks, form, ((form,), self.closed))
                    self.assert_shows_not(asks, form, (self.group[:2], self.closed))
                    self.assert_shows_not(asks, form, (("star", "note", "dot"), self.closed))
                    self.assert_shows_not(asks, form, (self.group + ("star",), self.closed))
                    self.assert_shows_not(asks, form, (list(self.group), self.closed))
                    self.assert_shows_not(asks, form, (self.group, self.group))
                    self.assert_shows_not(asks, form, (self.group, self.closed[1:]))
                    self.assert_shows_not(asks, form, (self.group, ("page",)))

    def test_the_class_has_only_lost_forms(self):
        asks = question(self.makers, self.makers[1:], offer=("star", "note"))
        self.assertEqual(to_make(*asks), (("star", (("note", "star"), self.closed)),))
        self.assert_shows(asks, "note", (("note", "star"), self.closed))
        self.assert_shows_not(asks, "note", (self.group, self.closed))

    def test_a_form_with_less_is_in_no_class_with_one_with_more(self):
        makers = (("a", "full", "star", 1), ("b", "full", "cell", 1), ("c", "cell", "page", 0), ("d", "page", "star", 0))
        asks = question(makers, makers[3:], offer=("page", "star"))
        self.assert_shows(asks, "star", (("star",), ("page", "star")))
        self.assert_shows(asks, "page", (("page",), ("page",)))
        self.assert_shows_not(asks, "star", (("star",), ("star",)))
        self.assert_shows_not(asks, "star", (("page", "star"), ("page", "star")))
        # The form star has no cells, so it may be there; a form that carries what is due and leads to it may not.
        self.assert_shows(asks, "page", (("page",), ("page", "star")))


class StayingTexts(Case):
    makers = (("a", "full", "star", 1), ("b", "full", "cell", 1), ("c", "dot", "star", 1))

    def test_the_own_text(self):
        for stays_owned in (True, False):
            asks = question(self.makers, (), stays_owned, ("star", "cell"))
            self.assert_shows(asks, "star", (("star",), ("star",)))
            self.assert_shows(asks, "star", (("star",), ("all", "star")))
            self.assertIs(shows_need(*asks, "star", (("star",), ("full", "star"))), not stays_owned)
        lost_own = question(self.makers, (), False, ("star", "full"))
        self.assert_shows_not(lost_own, "star", (("star",), ("full", "star")))

    def test_an_own_text_that_is_gone_does_not_stay(self):
        makers = (("a", "full", "star", 1), ("b", "star", "plain", 1))
        asks = question(makers, (), True, ("star", "plain"), ("star",))
        self.assert_shows_not(asks, "plain", (("plain",), ("full", "plain")))
        gone = asks[:3] + (crashed(asks[3], False), True)
        self.assert_shows(gone, "plain", (("plain",), ("full", "plain")))

    def test_made_texts(self):
        asks = question(self.makers, (), False, ("cell", "star"), ("cell",))
        self.assertEqual(to_make(*asks), (("star", (("star",), ("star",))),))
        # The text in the form cell stays, but it has not what is due.
        self.assert_shows(asks, "star", (("star",), ("cell", "star")))
        makers = (("a", "full", "star", 1), ("b", "full", "plain", 1))
        asks = question(makers, (), False, ("star", "plain"), ("star",))
        self.assert_shows(asks, "plain", (("plain",), ("plain",)))
        self.assert_shows_not(asks, "plain", (("plain",), ("plain", "star")))


class AllCertificates(Case):
    def questions(self, seeds):
        for seed in range(seeds):
            chooser, forms, makers = random_graph(seed)
            own = chooser.choice(sorted(forms))
            entry = Entry(1, keep(SMALL, FEATURES_OF[own]), own, None, forms, makers)
            offer = tuple(chooser.sample(list(entry.dues), len(entry.dues)))
            entry = Entry(1, keep(SMALL, FEATURES_OF[own]), own, offer, forms, makers)
            if chooser.random() < 0.3:
                entry = asked(forms, makers, entry, chooser.choice(offer))[2]
            staying = tuple(maker for maker in makers if chooser.random() < 0.6)
            yield forms, makers, staying, entry, chooser.random() < 0.5

    def test_certificates_of_to_make(self):
        count = 0
        for asks in self.questions(300):
            for form, certificate in to_make(*asks):
                self.assert_shows(asks, form, certificate)
                count += 1
                for other in asks[0]:
                    expected = is_certificate(*asks, other, certificate)
                    self.assertIs(shows_need(*asks, other, certificate), expected)
        self.assertGreater(count, 200)

    def test_one_thing_changed_at_any_place(self):
        count = 0
        for asks in self.questions(100):
            for form, certificate in to_make(*asks):
                group, closed = certificate
                more = [(group, tuple(sorted({*closed, name}))) for name in asks[0]]
                for change in self.changes(certificate, OTHERS + tuple(sorted(asks[0]))) + more:
                    shows = is_certificate(*asks, form, change)
                    self.assertIs(shows_need(*asks, form, change), shows, (asks, form, change))
                    count += shows
        self.assertGreater(count, 50)

    def test_none_is_left_behind_an_end(self):
        for asks in self.questions(100):
            later = ended(*asks)[1]
            for form, certificate in to_make(*asks):
                self.assert_shows_not(asks[:3] + (later, asks[4]), form, certificate)

    def test_other_objects(self):
        for asks in self.questions(5):
            for thing in objects_of_all_kinds():
                for form in asks[0]:
                    self.assert_shows_not(asks, form, thing)
                    self.assert_shows_not(asks, form, ((form,), thing) if thing != (form,) else None)
                    self.assert_shows_not(asks, form, (thing, (form,)) if thing != (form,) else None)

    def test_nothing_is_modified(self):
        things = objects_of_all_kinds() + [[["star"], ["star"]], (["star"], ["star"]), (("star",), ["star"])]
        before = copy.deepcopy(things)
        for asks in self.questions(5):
            was = copy.deepcopy((asks[:3], state(asks[3])))
            for thing in things:
                shows_need(*asks, "star", thing)
            self.assertEqual((asks[:3], state(asks[3])), was)
        self.assertEqual(repr(things), repr(before))
