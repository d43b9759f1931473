"""Points 2 and 13: the answers that show the best chain among all objects."""

import copy
import unittest

from clipforms.makers import best, shows_best
from tests.samples import (
    ALL_FEATURES, FEATURES_OF, all_changes, forms_named, going, is_carried, objects_of_all_kinds, random_graph,
)

OTHERS = (None, "", "plain", "star", "bold", "a", 0, 1, -1, True, (), ("star",), (("star",),), [], {}, {"star": 0})


def is_int(thing):
    return isinstance(thing, int) and not isinstance(thing, bool)


def is_set_of_forms(forms, thing):
    """Whether any object is an ascending tuple of names of forms."""
    if not isinstance(thing, tuple) or not all(isinstance(name, str) for name in thing):
        return False
    return all(name in forms for name in thing) and list(thing) == sorted(set(thing))


def is_barrier(forms, makers, source, target, thing):
    """Whether any object is a closed set with the source and without the target."""
    if not is_set_of_forms(forms, thing) or source not in thing or target in thing:
        return False
    return all(maker[2] in thing for maker in makers if maker[1] in thing)


def is_label(thing):
    if not isinstance(thing, tuple) or len(thing) != 3 or not is_int(thing[0]) or not is_int(thing[1]):
        return False
    names = thing[2]
    return isinstance(names, tuple) and all(isinstance(name, str) for name in names) and thing[1] == len(names)


def are_labels(forms, makers, source, thing):
    if not isinstance(thing, tuple) or not all(isinstance(row, tuple) and len(row) == 2 for row in thing):
        return False
    if not is_set_of_forms(forms, tuple(row[0] for row in thing)) or not all(is_label(row[1]) for row in thing):
        return False
    labels = dict(thing)
    for name, start, target, cost in makers:
        if start in labels:
            before = labels[start]
            if target not in labels or labels[target] > (before[0] + cost, before[1] + 1, before[2] + (name,)):
                return False
    return labels.get(source) == (0, 0, ())


def chain_of(makers, source, target, thing):
    """The makers of a chain from the source to the target, or None."""
    if not isinstance(thing, tuple):
        return None
    chain = []
    for name in thing:
        chain += [maker for maker in makers if isinstance(name, str) and maker[0] == name]
    ways = [(maker[1], maker[2]) for maker in chain]
    joints = [source] + [end for way in ways for end in way] + [target]
    if len(chain) != len(thing) or joints[::2] != joints[1::2]:
        return None
    return chain


def is_answer(forms, makers, source, features, target, thing):
    """Point 13, sentence by sentence."""
    if not isinstance(thing, tuple):
        return False
    if len(thing) == 2:
        return thing[0] == "none" and is_barrier(forms, makers, source, target, thing[1])
    if len(thing) != 5 or thing[0] != "chain":
        return False
    _, kept, names, cuts, labels = thing
    chain = chain_of(makers, source, target, names)
    if chain is None:
        return False
    along = [source] + [maker[2] for maker in chain]
    if kept != tuple(one for one in features if all(is_carried(forms, name, (one,)) for name in along)):
        return False
    if not isinstance(cuts, tuple) or not all(isinstance(cut, tuple) and len(cut) == 2 for cut in cuts):
        return False
    if [cut[0] for cut in cuts] != [feature for feature in features if feature not in kept]:
        return False
    for feature, closed in cuts:
        wanted = [one for one in kept if ALL_FEATURES.index(one) < ALL_FEATURES.index(feature)] + [feature]
        if not is_barrier(forms, going(forms, makers, wanted), source, target, closed):
            return False
    if not are_labels(forms, going(forms, makers, kept), source, labels):
        return False
    own = (sum(maker[3] for maker in chain), len(chain), tuple(maker[0] for maker in chain))
    return dict(labels)[target] == own


class Case(unittest.TestCase):
    def assert_shows(self, question, answer):
        self.assertIs(shows_best(*question, answer), True, repr(answer)[:500])

    def assert_shows_not(self, question, answer):
        self.assertIs(shows_best(*question, answer), False, repr(answer)[:500])

    def changes(self, answer, others=OTHERS):
        """All changes of an answer that are not it."""
        return [change for change in all_changes(answer, others) if repr(change) != repr(answer)]


# One chain beside which nothing may be otherwise: each form is on it, and the target is not carried on.
FORMS = forms_named("star", "cell")
MAKERS = (("a", "star", "cell", 1), ("b", "cell", "plain", 2))
QUESTION = (FORMS, MAKERS, "star", ("bold",), "plain")
LABELS = (("cell", (1, 1, ("a",))), ("plain", (3, 2, ("a", "b"))), ("star", (0, 0, ())))
ANSWER = ("chain", (), ("a", "b"), (("bold", ("star",)),), LABELS)


class OneChain(Case):
    def test_the_answer(self):
        self.assertEqual(best(*QUESTION), ANSWER)
        self.assert_shows(QUESTION, ANSWER)

    def test_one_thing_changed_at_any_place(self):
        changes = self.changes(ANSWER)
        self.assertGreater(len(changes), 500)
        for change in changes:
            self.assert_shows_not(QUESTION, change)

    def test_a_greater_closed_set_shows_it_too(self):
        self.assert_shows(QUESTION, ANSWER[:3] + ((("bold", ("cell", "star")),), LABELS))
        self.assert_shows_not(QUESTION, ANSWER[:3] + ((("bold", ("star", "cell")),), LABELS))
        self.assert_shows_not(QUESTION, ANSWER[:3] + ((("bold", ("plain", "star")),), LABELS))
        self.assert_shows_not(QUESTION, ANSWER[:3] + ((("bold", ("cell",)),), LABELS))

    def test_answers_to_other_questions(self):
        for source, features, target in (
            ("star", (), "plain"), ("star", ("bold",), "cell"), ("cell", (), "plain"), ("star", ("bold",), "star"),
            ("plain", (), "star"), ("cell", ("cells",), "plain"), ("plain", (), "plain"),
        ):
            self.assert_shows_not((FORMS, MAKERS, source, features, target), ANSWER)

    def test_answers_with_other_makers(self):
        for makers in (
            (), MAKERS[:1], MAKERS[1:], (("a", "star", "cell", 2), MAKERS[1]), (MAKERS[0], ("b", "cell", "plain", 1)),
            (("c", "star", "cell", 1), MAKERS[1]), MAKERS + (("c", "star", "plain", 2),),
            MAKERS + (("c", "star", "cell", 0),), MAKERS + (("c", "star", "plain", 3),),
        ):
            self.assert_shows_not((FORMS, makers, "star", ("bold",), "plain"), ANSWER)
        for makers in (
            MAKERS[::-1], MAKERS + (("c", "star", "plain", 4),), MAKERS + (("c", "plain", "star", 0),),
            MAKERS + (("c", "star", "cell", 1),), MAKERS + (("c", "plain", "cell", 0),),
        ):
            self.assert_shows((FORMS, makers, "star", ("bold",), "plain"), ANSWER)

    def test_a_way_that_keeps_more(self):
        forms = forms_named("star", "cell", "dot", "page")
        makers = MAKERS + (("c", "star", "page", 9), ("d", "page", "dot", 9), ("e", "cell", "dot", 0))
        labels = (
            ("cell", (1, 1, ("a",))), ("dot", (1, 2, ("a", "e"))), ("page", (9, 1, ("c",))),
            ("plain", (3, 2, ("a", "b"))), ("star", (0, 0, ())),
        )
        for closed in (("star",), ("page", "star"), ("cell", "star"), ("dot", "page", "star")):
            answer = ("chain", (), ("a", "e"), (("bold", closed),), labels)
            self.assert_shows_not((forms, makers, "star", ("bold",), "dot"), answer)
        self.assert_shows((forms, makers, "star", (), "dot"), ("chain", (), ("a", "e"), (), labels))


class Labels(Case):
    """Labels of forms that are not on the chain may be less than those of the least chains."""

    forms = forms_named("star", "dot", "cell")
    makers = (("b", "star", "plain", 2), ("c", "star", "dot", 3), ("d", "dot", "plain", 4))
    question = (forms, makers, "star", (), "plain")

    def answer(self, *rows):
        return ("chain", (), ("b",), (), tuple(sorted((("plain", (2, 1, ("b",))), ("star", (0, 0, ()))) + rows)))

    def test_the_least_ones(self):
        self.assert_shows(self.question, self.answer(("dot", (3, 1, ("c",)))))
        self.assertEqual(best(*self.question), self.answer(("dot", (3, 1, ("c",)))))

    def test_less(self):
        for row in ((2, 1, ("c",)), (3, 0, ()), (0, 3, ("x", "y", "z")), (0, 0, ()), (3, 1, ("b",)), (-2, 0, ())):
            self.assert_shows(self.question, self.answer(("dot", row)))

    def test_so_much_less_that_the_target_should_be_less(self):
        for row in ((-3, 0, ()), (-3, 1, ("c",)), (-4, 0, ()), (-(10 ** 29), 0, ())):
            self.assert_shows_not(self.question, self.answer(("dot", row)))

    def test_more(self):
        for row in ((4, 1, ("c",)), (3, 2, ("c", "c")), (3, 1, ("d",)), (3, 1, ("c1",)), (10 ** 29, 0, ())):
            self.assert_shows_not(self.question, self.answer(("dot", row)))

    def test_missing(self):
        self.assert_shows_not(self.question, self.answer())

    def test_of_forms_that_no_chain_reaches(self):
        for row in ((0, 0, ()), (5, 1, ("c",)), (10 ** 29, 0, ())):
            self.assert_shows(self.question, self.answer(("dot", (3, 1, ("c",))), ("cell", row)))
        self.assert_shows_not(self.question, self.answer(("dot", (3, 1, ("c",))), ("none", (0, 0, ()))))
        self.assert_shows_not(self.question, self.answer(("dot", (3, 1, ("c",))), ("", (0, 0, ()))))

    def test_the_number_is_that_of_the_names(self):
        for row in ((0, 1, ()), (0, 0, ("c",)), (0, 2, ("c",)), (0, -1, ()), (0, 1, ("c", "d"))):
            self.assert_shows_not(self.question, self.answer(("dot", row)))

    def test_their_kinds(self):
        for row in (
            (True, 1, ("c",)), (2, True, ("c",)), (False, 0, ()), (0, False, ()), ("2", 1, ("c",)), (None, 1, ("c",)),
            (2, 1, ["c"]), (2, 1, "c"), (2, 1, (1,)), (2, 1, (None,)), (2, 1, (("c",),)), (2, 1), (2, 1, ("c",), 0),
            [2, 1, ("c",)], 2, None, "c", (), {}, (2, 1, {"c": 0}), (2, None, ("c",)), (2, (1,), ("c",)),
        ):
            self.assert_shows_not(self.question, self.answer(("dot", row)))

    def test_rows(self):
        good = self.answer(("dot", (3, 1, ("c",))))
        for row in (
            ("dot",), ("dot", (3, 1, ("c",)), 0), ["dot", (3, 1, ("c",))], "dot", None, 3, (), (3, 1, ("c",)),
            (None, (3, 1, ("c",))), (("dot",), (3, 1, ("c",))), (["dot"], (3, 1, ("c",))), ({}, (3, 1, ("c",))),
        ):
            self.assert_shows_not(self.question, good[:4] + ((row,) + good[4][1:],))
            self.assert_shows_not(self.question, good[:4] + (good[4] + (row,),))

    def test_their_order(self):
        good = self.answer(("dot", (3, 1, ("c",))))
        first, second, third = good[4]
        for rows in (
            (first, third, second), (second, first, third), (third, second, first), (first, first, second, third),
            (first, second, second, third), (first, second, third, third),
        ):
            self.assert_shows_not(self.question, good[:4] + (rows,))

    def test_the_source(self):
        good = self.answer(("dot", (3, 1, ("c",))))
        for own in ((-1, 0, ()), (0, 1, ("a",)), (1, 0, ()), (False, False, ())):
            self.assert_shows_not(self.question, good[:4] + (good[4][:2] + (("star", own),),))
        self.assert_shows_not(self.question, good[:4] + (good[4][:2],))

    def test_the_target_has_that_of_the_chain(self):
        for own in ((1, 1, ("b",)), (2, 0, ()), (2, 1, ("a",)), (2, 1, ("c",)), (3, 1, ("b",)), (0, 0, ())):
            rows = (("dot", (3, 1, ("c",))), ("plain", own), ("star", (0, 0, ())))
            self.assert_shows_not(self.question, ("chain", (), ("b",), (), rows))


class Chains(Case):
    """Other chains than the best one."""

    forms = forms_named("full", "all", "cell", "star")
    makers = (
        ("a", "full", "all", 1), ("b", "full", "all", 1), ("c", "full", "cell", 0), ("d", "cell", "all", 0),
        ("e", "all", "full", 0), ("f", "star", "all", 0),
    )

    def test_chains_that_are_not_best(self):
        for features in ((), ("cells",), ("bold",), ("cells", "bold"), ALL_FEATURES):
            question = (self.forms, self.makers, "full", features, "all")
            answer = best(*question)
            for names in ((), ("a",), ("b",), ("c", "d"), ("a", "e", "a"), ("c",), ("d",), ("c", "a"), ("f",), ("x",)):
                for kept in {answer[1], features, ("cells",), ()}:
                    change = ("chain", kept, names) + answer[3:]
                    self.assertIs(shows_best(*question, change), change == answer, (features, change))

    def test_labels_that_fit_a_worse_chain(self):
        question = (self.forms, self.makers, "full", ("bold",), "all")
        labels = (("all", (1, 1, ("b",))), ("full", (0, 0, ())))
        self.assert_shows_not(question, ("chain", ("bold",), ("b",), (), labels))
        labels = (("all", (1, 1, ("a",))), ("full", (0, 0, ())))
        self.assert_shows(question, ("chain", ("bold",), ("a",), (), labels))
        self.assert_shows_not(question, ("chain", ("bold",), ("a", "e", "a"), (), labels))
        labels = (("all", (0, 2, ("c", "d"))), ("cell", (0, 1, ("c",))), ("full", (0, 0, ())))
        self.assert_shows_not(question, ("chain", (), ("c", "d"), (("bold", ("full",)),), labels))

    def test_makers_that_are_no_chain_with_labels_that_fit(self):
        forms = forms_named("star", "dot", "note", "full")
        makers = (
            ("a", "star", "plain", 9), ("b", "dot", "plain", 1), ("c", "star", "note", 1), ("d", "note", "full", 1),
        )
        question = (forms, makers, "star", (), "plain")
        rows = (("full", (2, 2, ("c", "d"))), ("note", (1, 1, ("c",))))
        for names, own in (
            (("b",), (1, 1, ("b",))), (("c", "b"), (2, 2, ("c", "b"))), (("b", "b"), (2, 2, ("b", "b"))),
            (("d", "b"), (2, 2, ("d", "b"))), (("c", "d"), (2, 2, ("c", "d"))), ((), (0, 0, ())),
        ):
            labels = rows + (("plain", own), ("star", (0, 0, ())))
            self.assert_shows_not(question, ("chain", (), names, (), labels))
        labels = rows + (("plain", (9, 1, ("a",))), ("star", (0, 0, ())))
        self.assert_shows(question, ("chain", (), ("a",), (), labels))

    def test_no_chain_where_there_is_one(self):
        question = (self.forms, self.makers, "full", (), "all")
        for closed in ((), ("full",), ("cell", "full"), ("all", "cell", "full"), ("cell",), ("cell", "full", "star")):
            self.assert_shows_not(question, ("none", closed))

    def test_the_same_form(self):
        question = (self.forms, self.makers, "full", ALL_FEATURES, "full")
        labels = (("all", (1, 1, ("a",))), ("full", (0, 0, ())))
        self.assert_shows(question, ("chain", ALL_FEATURES, (), (), labels))
        self.assert_shows_not(question, ("chain", ALL_FEATURES, ("a", "e"), (), labels))
        self.assert_shows_not(question, ("chain", ALL_FEATURES[1:], (), (("cells", ()),), labels))
        self.assert_shows_not(question, ("none", ("full",)))
        self.assert_shows_not(question, ("none", ()))


class NoChains(Case):
    forms = forms_named("star", "dot", "full", "cell")
    makers = (("a", "star", "plain", 1), ("b", "dot", "full", 1))
    question = (forms, makers, "star", ("bold",), "full")

    def test_closed_sets(self):
        self.assertEqual(best(*self.question), ("none", ("plain", "star")))
        self.assert_shows(self.question, ("none", ("plain", "star")))
        self.assert_shows(self.question, ("none", ("cell", "plain", "star")))

    def test_sets_that_are_not_closed(self):
        for closed in (
            (), ("star",), ("plain",), ("plain", "star", "star"), ("star", "plain"), ("dot", "plain", "star"),
            ("full", "plain", "star"), ("dot", "full", "plain", "star"), ("cell", "plain"), ("plain", "star", "zz"),
            ("", "plain", "star"), ("cell", "cell", "plain", "star"),
        ):
            self.assert_shows_not(self.question, ("none", closed))

    def test_one_thing_changed_at_any_place(self):
        for change in self.changes(("none", ("plain", "star"))):
            self.assert_shows_not(self.question, change)

    def test_a_chain_where_there_is_none(self):
        labels = (("full", (1, 1, ("a",))), ("plain", (1, 1, ("a",))), ("star", (0, 0, ())))
        for names in (("a",), ("b",), ("a", "b"), ()):
            self.assert_shows_not(self.question, ("chain", ("bold",), names, (), labels))
            self.assert_shows_not(self.question, ("chain", (), names, (("bold", ("plain", "star")),), labels))


class AllAnswers(Case):
    def test_answers_of_best(self):
        for seed in range(200):
            _, forms, makers = random_graph(seed)
            for source in forms:
                for target in forms:
                    question = (forms, makers, source, FEATURES_OF[source], target)
                    self.assert_shows(question, best(*question))

    def test_answers_to_questions_about_other_makers(self):
        shown = 0
        for seed in range(100):
            chooser, forms, makers = random_graph(seed)
            for target in forms:
                source = chooser.choice(sorted(forms))
                question = (forms, makers, source, FEATURES_OF[source], target)
                answer = best(*question)
                for at in range(len(makers)):
                    fewer = (forms, makers[:at] + makers[at + 1:]) + question[2:]
                    self.assertIs(shows_best(*fewer, answer), is_answer(*fewer, answer))
                    self.assertIs(shows_best(*question, best(*fewer)), is_answer(*question, best(*fewer)))
                    shown += shows_best(*fewer, answer)
        self.assertGreater(shown, 100)

    def test_one_thing_changed_at_any_place(self):
        count = 0
        for seed in range(40):
            chooser, forms, makers = random_graph(seed, 5, 7)
            source, target = chooser.choice(sorted(forms)), chooser.choice(sorted(forms))
            question = (forms, makers, source, FEATURES_OF[source], target)
            answer = best(*question)
            others = OTHERS + tuple(sorted(forms)) + tuple(maker[0] for maker in makers)
            for change in self.changes(answer, others):
                shows = shows_best(*question, change)
                self.assertIs(shows, is_answer(*question, change), (question, change))
                if shows:
                    # Whatever shows it, the chain is the best one.
                    self.assertEqual(change[:1], answer[:1])
                    self.assertTrue(change[0] == "none" or change[1:3] == answer[1:3])
                    count += 1
        self.assertGreater(count, 100)

    def test_other_objects(self):
        for seed in range(10):
            _, forms, makers = random_graph(seed)
            for thing in objects_of_all_kinds():
                question = (forms, makers, "plain", (), "plain")
                self.assert_shows_not(question, thing)
                self.assert_shows_not(question, ("none", thing))
                self.assert_shows_not(question, (thing, ("plain",)))
                answer = best(*question)
                for at in range(5):
                    change = answer[:at] + (thing,) + answer[at + 1:]
                    self.assertIs(shows_best(*question, change), repr(change) == repr(answer), change)

    def test_nothing_is_modified(self):
        things = [ANSWER, ["none", ["star"]], ("none", ["star"]), ANSWER[:4] + (list(LABELS),)] + objects_of_all_kinds()
        before = copy.deepcopy((QUESTION, things))
        for thing in things:
            shows_best(*QUESTION, thing)
        self.assertEqual(repr((QUESTION, things)), repr(before))
