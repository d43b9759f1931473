"""Points 11 to 13: the best chains, and the answers that best gives."""

import copy
import unittest
from itertools import permutations

from clipforms.makers import best, shows_best
from tests.samples import (
    ALL_FEATURES, FEATURES_OF, PLAIN, chains_from, feature_sets, forms_named, going, is_carried, label, led_to,
    random_graph,
)


def kept_along(forms, source, features, chain):
    """The features that all forms of a chain carry."""
    along = [source] + [maker[2] for maker in chain]
    return tuple(feature for feature in features if all(is_carried(forms, name, (feature,)) for name in along))


def worth(features):
    """What is greater for a set that is greater in the order of worth."""
    return [feature in features for feature in ALL_FEATURES]


def expected(forms, makers, source, features, target):
    """The answer, found by going along all chains."""
    chains = [chain for end, chain in chains_from(makers, source) if end == target]
    if not chains:
        return ("none", led_to(makers, (source,)))
    kept = max((kept_along(forms, source, features, chain) for chain in chains), key=worth)
    names = min(label(chain) for chain in chains if kept_along(forms, source, features, chain) == kept)[2]
    cuts = []
    for at, feature in enumerate(features):
        if feature not in kept:
            wanted = tuple(other for other in features[:at] if other in kept) + (feature,)
            cuts.append((feature, led_to(going(forms, makers, wanted), (source,))))
    labels = {}
    for end, chain in chains_from(going(forms, makers, kept), source):
        labels[end] = min(label(chain), labels.get(end, label(chain)))
    return ("chain", kept, names, tuple(cuts), tuple(sorted(labels.items())))


class LeastChains(unittest.TestCase):
    """Chains that keep the same: the least by cost, number and names."""

    forms = forms_named("star", "dot", "page", "full")

    def names(self, makers, source="star", target="plain", features=()):
        answers = {best(self.forms, order, source, features, target) for order in permutations(makers)}
        self.assertEqual(len(answers), 1)
        return answers.pop()[2]

    def test_one_maker(self):
        self.assertEqual(self.names((("a", "star", "plain", 5),)), ("a",))
        self.assertEqual(self.names((("a", "star", "plain", 0), ("b", "plain", "star", 0))), ("a",))

    def test_the_cost_goes_ahead_of_the_number(self):
        makers = (("a", "star", "plain", 3), ("b", "star", "dot", 1), ("c", "dot", "plain", 1))
        self.assertEqual(self.names(makers), ("b", "c"))
        self.assertEqual(self.names((("a", "star", "plain", 1),) + makers[1:]), ("a",))

    def test_the_number_goes_ahead_of_the_names(self):
        makers = (("z", "star", "plain", 2), ("b", "star", "dot", 1), ("c", "dot", "plain", 1))
        self.assertEqual(self.names(makers), ("z",))
        makers = (("z", "star", "plain", 0), ("b", "star", "dot", 0), ("c", "dot", "plain", 0))
        self.assertEqual(self.names(makers), ("z",))

    def test_names_decide_last(self):
        self.assertEqual(self.names((("b", "star", "plain", 2), ("a", "star", "plain", 2))), ("a",))
        self.assertEqual(self.names((("b1", "star", "plain", 2), ("b", "star", "plain", 2))), ("b",))
        self.assertEqual(self.names((("a", "star", "plain", 2), ("9", "star", "plain", 2))), ("9",))
        makers = (("b", "star", "dot", 1), ("y", "dot", "plain", 1), ("c", "star", "page", 0), ("a", "page", "plain", 2))
        self.assertEqual(self.names(makers), ("b", "y"))

    def test_the_first_names_go_ahead_of_the_last(self):
        makers = (("a", "star", "dot", 1), ("b", "star", "dot", 1), ("d", "dot", "plain", 1), ("c", "dot", "plain", 1))
        self.assertEqual(self.names(makers), ("a", "c"))

    def test_a_dear_beginning_with_a_low_name(self):
        makers = (("a", "star", "dot", 2), ("b", "star", "dot", 1), ("c", "dot", "plain", 0))
        self.assertEqual(self.names(makers), ("b", "c"))

    def test_the_chain_does_not_go_beyond_the_target(self):
        makers = (("b", "star", "plain", 0), ("a", "plain", "dot", 0), ("c", "dot", "plain", 0))
        self.assertEqual(self.names(makers), ("b",))

    def test_costs_are_summed(self):
        makers = (
            ("a", "star", "dot", 1000), ("b", "dot", "page", 1000), ("c", "page", "plain", 1000),
            ("d", "star", "full", 999), ("e", "full", "page", 1000),
        )
        self.assertEqual(self.names(makers), ("d", "e", "c"))

    def test_only_chains_that_keep_most_are_compared(self):
        makers = (("a", "star", "plain", 0), ("b", "plain", "dot", 0), ("c", "star", "dot", 1000))
        self.assertEqual(self.names(makers, "star", "dot", ()), ("a", "b"))
        self.assertEqual(self.names(makers, "star", "dot", ("bold",)), ("c",))


class SameForm(unittest.TestCase):
    def test_without_makers(self):
        forms = forms_named("full")
        answer = best(forms, (), "full", ALL_FEATURES, "full")
        self.assertEqual(answer, ("chain", ALL_FEATURES, (), (), (("full", (0, 0, ())),)))
        self.assertEqual(best(forms, (), "plain", (), "plain"), ("chain", (), (), (), (("plain", (0, 0, ())),)))

    def test_with_makers_to_and_fro(self):
        forms = forms_named("full", "star")
        makers = (("a", "full", "star", 0), ("b", "star", "full", 0), ("c", "full", "plain", 0))
        labels = (("full", (0, 0, ())), ("plain", (0, 1, ("c",))), ("star", (0, 1, ("a",))))
        self.assertEqual(best(forms, makers, "full", (), "full"), ("chain", (), (), (), labels))
        labels = (("full", (0, 0, ())), ("star", (0, 1, ("a",))))
        self.assertEqual(best(forms, makers, "full", ("bold",), "full"), ("chain", ("bold",), (), (), labels))


class NoChain(unittest.TestCase):
    def test_no_makers(self):
        forms = forms_named("star", "dot")
        self.assertEqual(best(forms, (), "star", ("bold",), "dot"), ("none", ("star",)))
        self.assertEqual(best(forms, (), "star", (), "plain"), ("none", ("star",)))

    def test_makers_that_lead_elsewhere(self):
        forms = forms_named("star", "dot", "full", "all")
        makers = (("a", "star", "plain", 1), ("b", "plain", "full", 1), ("c", "dot", "all", 1), ("d", "dot", "star", 1))
        self.assertEqual(best(forms, makers, "star", ("bold",), "dot"), ("none", ("full", "plain", "star")))
        self.assertEqual(best(forms, makers, "plain", (), "all"), ("none", ("full", "plain")))
        self.assertEqual(best(forms, makers, "full", ALL_FEATURES, "plain"), ("none", ("full",)))

    def test_a_maker_is_no_way_back(self):
        forms = forms_named("star")
        self.assertEqual(best(forms, (("a", "plain", "star", 0),), "star", (), "plain"), ("none", ("star",)))


class Kept(unittest.TestCase):
    def test_one_feature_against_another(self):
        forms = forms_named("full", "cell", "tree", "all", "note")
        makers = (("a", "full", "cell", 5), ("b", "cell", "all", 5), ("c", "full", "tree", 0), ("d", "tree", "all", 0))
        labels = (("all", (10, 2, ("a", "b"))), ("cell", (5, 1, ("a",))), ("full", (0, 0, ())))
        cuts = tuple((feature, ("full",)) for feature in ("nest", "link", "bold", "slant"))
        answer = ("chain", ("cells",), ("a", "b"), cuts, labels)
        self.assertEqual(best(forms, makers, "full", ALL_FEATURES, "all"), answer)

    def test_without_the_one_the_other_is_kept(self):
        forms = forms_named("full", "cell", "tree", "all")
        makers = (("a", "full", "cell", 5), ("b", "cell", "all", 5), ("c", "full", "tree", 0), ("d", "tree", "all", 0))
        answer = best(forms, makers, "full", ("nest", "link", "bold", "slant"), "all")
        self.assertEqual(answer[:4], ("chain", ("nest", "link"), ("c", "d"), (("bold", ("full",)), ("slant", ("full",)))))
        answer = best(forms, makers, "full", ("bold", "slant"), "all")
        cuts = (("bold", ("full",)), ("slant", ("full",)))
        self.assertEqual(answer[:4], ("chain", (), ("c", "d"), cuts))

    def test_a_cut_counts_only_the_kept_features_in_front(self):
        forms = forms_named("full", "page", "note", "dot", "star", "all")
        makers = (
            ("a", "full", "page", 1), ("b", "page", "all", 1), ("c", "full", "note", 1), ("d", "note", "all", 1),
            ("e", "note", "star", 1), ("f", "note", "dot", 1),
        )
        answer = best(forms, makers, "full", ALL_FEATURES, "all")
        self.assertEqual(answer[1:3], (("cells", "bold", "slant"), ("a", "b")))
        self.assertEqual(answer[3], (("nest", ("full",)), ("link", ("full",))))
        answer = best(forms, makers, "full", ("nest", "bold", "slant"), "all")
        self.assertEqual(answer[1:4], (("nest", "bold"), ("c", "d"), (("slant", ("full",)),)))

    def test_what_goes_on_behind_a_cut(self):
        forms = forms_named("full", "page", "note", "dot", "star", "cell")
        makers = (("a", "full", "page", 1), ("b", "page", "dot", 1), ("c", "dot", "cell", 1), ("d", "dot", "star", 1))
        answer = best(forms, makers, "full", ("cells", "bold"), "cell")
        labels = (
            ("cell", (3, 3, ("a", "b", "c"))), ("dot", (2, 2, ("a", "b"))), ("full", (0, 0, ())),
            ("page", (1, 1, ("a",))), ("star", (3, 3, ("a", "b", "d"))),
        )
        cuts = (("cells", ("full", "page")), ("bold", ("dot", "full", "page", "star")))
        self.assertEqual(answer, ("chain", (), ("a", "b", "c"), cuts, labels))

    def test_a_feature_that_the_target_lacks(self):
        forms = forms_named("star", "cell")
        answer = best(forms, (("a", "star", "cell", 1),), "star", ("bold",), "cell")
        labels = (("cell", (1, 1, ("a",))), ("star", (0, 0, ())))
        self.assertEqual(answer, ("chain", (), ("a",), (("bold", ("star",)),), labels))

    def test_features_that_the_content_does_not_use(self):
        forms = forms_named("full", "all")
        for features in feature_sets():
            answer = best(forms, (("a", "full", "all", 1),), "full", features, "all")
            self.assertEqual(answer, ("chain", features, ("a",), (), (("all", (1, 1, ("a",))), ("full", (0, 0, ())))))

    def test_names_of_forms_may_be_any(self):
        forms = {"plain": PLAIN, "one/star": forms_named("star")["star"], "b/star": forms_named("star")["star"]}
        answer = best(forms, (("one>b/star", "one/star", "b/star", 4),), "one/star", ("bold",), "b/star")
        labels = (("b/star", (4, 1, ("one>b/star",))), ("one/star", (0, 0, ())))
        self.assertEqual(answer, ("chain", ("bold",), ("one>b/star",), (), labels))


class AllQuestions(unittest.TestCase):
    def test_many_graphs(self):
        kinds = set()
        for seed in range(300):
            chooser, forms, makers = random_graph(seed)
            for source in forms:
                for target in forms:
                    used = [feature for feature in FEATURES_OF[source] if chooser.random() < 0.8]
                    answer = best(forms, makers, source, tuple(used), target)
                    self.assertEqual(answer, expected(forms, makers, source, tuple(used), target), (seed, source, target))
                    kinds.add((answer[0], len(answer[1]), len(answer) > 3 and len(answer[3])))
        self.assertGreater(len(kinds), 12)

    def test_another_order_of_the_makers(self):
        for seed in range(100):
            chooser, forms, makers = random_graph(seed)
            for source in forms:
                for target in forms:
                    answers = set()
                    for _ in range(3):
                        order = tuple(chooser.sample(makers, len(makers)))
                        names = chooser.sample(sorted(forms), len(forms))
                        other_forms = {name: forms[name] for name in names}
                        answers.add(best(other_forms, order, source, FEATURES_OF[source], target))
                    self.assertEqual(answers, {best(forms, makers, source, FEATURES_OF[source], target)})

    def test_many_makers(self):
        forms = forms_named(*[name for name in FEATURES_OF if name != "plain"])
        names = sorted(forms)
        makers = tuple(
            (f"m{at}", names[at % 9], names[(at * 2 + 1) % 9], at % 4) for at in range(30)
            if at % 9 != (at * 2 + 1) % 9
        )
        for source in forms:
            for target in forms:
                answer = best(forms, makers, source, FEATURES_OF[source], target)
                self.assertIs(shows_best(forms, makers, source, FEATURES_OF[source], target, answer), True)

    def test_nothing_is_modified(self):
        for seed in range(20):
            _, forms, makers = random_graph(seed)
            before = copy.deepcopy((forms, makers))
            for source in forms:
                best(forms, makers, source, FEATURES_OF[source], "plain")
            self.assertEqual((forms, makers), before)
            self.assertEqual(list(forms), list(before[0]))
