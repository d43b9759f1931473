"""Points 2, 19 and 20: asking, and what the makers make."""

import copy
import unittest
from itertools import permutations

from clipforms.contents import keep
from clipforms.ends import crashed
from clipforms.entries import Entry, asked
from clipforms.errors import ClipError, Gone, NotOffered
from clipforms.forms import write
from tests.samples import (
    ALL_FEATURES, FEATURES_OF, SMALL, USE_ALONE, chains_from, forms_named, going, label, led_to, many_contents,
    random_graph, state,
)

FORMS = forms_named("full", "all", "star", "dot", "cell", "page", "note", "tree")
BOLD_ONE = USE_ALONE[("bold",)]


def made_of(rows):
    """The texts that rows tell."""
    return tuple(row[1:] for row in rows)


class Case(unittest.TestCase):
    forms = FORMS

    def ask(self, makers, entry, form):
        """What asking returns, with all that holds for each answer."""
        before = copy.deepcopy(state(entry))
        answer = asked(self.forms, makers, entry, form)
        self.assertIsInstance(answer, tuple)
        text, rows, later = answer
        self.assertEqual(state(entry), before)
        self.assertIsInstance(rows, tuple)
        self.assertEqual(text, write(self.forms[form], keep(entry.content, entry.dues[form])))
        after = before[:5] + [before[5] + made_of(rows)] + before[6:]
        self.assertEqual(state(later), after)
        texts = made_of(rows) + entry.texts
        self.assertEqual(len(set(texts)), len(texts))
        return text, rows, later

    def gone(self, makers, entry, form):
        """The closed set of the refusal."""
        before = copy.deepcopy(state(entry))
        with self.assertRaises(ClipError) as caught:
            asked(self.forms, makers, entry, form)
        self.assertIs(type(caught.exception), Gone)
        self.assertEqual(state(entry), before)
        return caught.exception.closed


class AtHand(Case):
    makers = (("a", "full", "star", 1), ("b", "star", "plain", 1))

    def test_the_own_text_serves(self):
        entry = Entry(1, SMALL, "full", None, FORMS, self.makers)
        for makers in (self.makers, ()):
            text, rows, later = self.ask(makers, entry, "full")
            self.assertEqual((text, rows, later.texts), (write(FORMS["full"], SMALL), (), ()))

    def test_a_made_text_serves(self):
        entry = Entry(1, SMALL, "full", None, FORMS, self.makers)
        first, rows, later = self.ask(self.makers, entry, "plain")
        self.assertEqual(rows, (("a", "star", ("bold",)), ("b", "plain", ())))
        for form in ("star", "plain"):
            for makers in (self.makers, ()):
                _, rows, again = self.ask(makers, later, form)
                self.assertEqual((rows, again.texts), ((), later.texts))
        self.assertEqual(self.ask((), later, "plain")[0], first)

    def test_a_made_text_serves_where_no_own_text_is(self):
        entry = Entry(1, SMALL, "full", None, FORMS, self.makers)
        later = crashed(self.ask(self.makers, entry, "star")[2], False)
        self.assertEqual(self.ask((), later, "star")[1], ())
        self.assertEqual(self.ask(self.makers, later, "plain")[1], (("b", "plain", ()),))

    def test_a_text_with_more_than_is_due_serves(self):
        makers = (("a", "full", "dot", 0), ("b", "dot", "star", 0), ("c", "full", "cell", 0), ("d", "cell", "page", 0))
        entry = Entry(1, SMALL, "full", ("page",), FORMS, makers)
        self.assertEqual(entry.dues, {"page": ("cells",)})
        text, rows, later = self.ask((("e", "full", "page", 0),), entry, "page")
        self.assertEqual(rows, (("e", "page", ("cells", "bold", "slant")),))
        self.assertEqual(text, "ab|cd!*!|!!\n")
        self.assertEqual(self.ask((), later, "page")[:2], (text, ()))

    def test_contents(self):
        for content in many_contents():
            entry = Entry(1, content, "full", None, FORMS, self.makers)
            self.assertEqual(self.ask(self.makers, entry, "full")[0], write(FORMS["full"], content))
            self.assertEqual(self.ask(self.makers, entry, "star")[0], write(FORMS["star"], content))
            self.assertEqual(self.ask(self.makers, entry, "plain")[0], write(FORMS["plain"], content))


class OneAndSeveralMakers(Case):
    def test_sets_along_the_chain(self):
        makers = (("a", "full", "page", 1), ("b", "page", "note", 1), ("c", "note", "plain", 1))
        entry = Entry(1, SMALL, "full", None, FORMS, makers)
        _, rows, later = self.ask(makers, entry, "plain")
        expected = (("a", "page", ("cells", "bold", "slant")), ("b", "note", ("bold",)), ("c", "plain", ()))
        self.assertEqual(rows, expected)
        self.assertEqual(later.texts, (("page", ("cells", "bold", "slant")), ("note", ("bold",)), ("plain", ())))

    def test_features_that_the_content_does_not_use_are_in_no_set(self):
        makers = (("a", "full", "all", 1), ("b", "all", "page", 1))
        entry = Entry(1, BOLD_ONE, "full", None, FORMS, makers)
        self.assertEqual(self.ask(makers, entry, "page")[1], (("a", "all", ("bold",)), ("b", "page", ("bold",))))

    def test_the_least_chain(self):
        ways = (
            ("a", "full", "star", 2), ("b", "star", "plain", 2), ("c", "full", "plain", 5), ("d", "full", "dot", 1),
            ("e", "dot", "plain", 3),
        )
        entry = Entry(1, SMALL, "full", ("plain",), FORMS, ways)
        for makers in permutations(ways):
            self.assertEqual([row[0] for row in self.ask(makers, entry, "plain")[1]], ["a", "b"])
        for makers in permutations(ways[2:]):
            self.assertEqual([row[0] for row in self.ask(makers, entry, "plain")[1]], ["d", "e"])
        self.assertEqual([row[0] for row in self.ask(ways[:3], entry, "plain")[1]], ["a", "b"])
        for makers in permutations((ways[0], ways[1], ("z", "full", "plain", 4))):
            self.assertEqual([row[0] for row in self.ask(makers, entry, "plain")[1]], ["z"])

    def test_a_cheaper_chain_that_loses_what_is_due_is_not_taken(self):
        makers = (("a", "full", "cell", 0), ("b", "cell", "star", 0), ("c", "full", "star", 9))
        entry = Entry(1, SMALL, "full", ("star",), FORMS, makers)
        self.assertEqual(entry.dues, {"star": ("bold",)})
        self.assertEqual(self.ask(makers, entry, "star")[1], (("c", "star", ("bold",)),))

    def test_makers_that_came_later(self):
        entry = Entry(1, SMALL, "full", ("plain", "cell"), FORMS, (("a", "full", "plain", 9), ("b", "plain", "cell", 9)))
        self.assertEqual(entry.dues, {"plain": (), "cell": ()})
        text, rows, _ = self.ask((("c", "full", "cell", 0),), entry, "cell")
        # The text keeps its cells, but what is answered is what was due at the copy.
        self.assertEqual((text, rows), ("ab cd*!|!!\n", (("c", "cell", ("cells",)),)))


class FromTexts(Case):
    """Chains begin at the text at hand from which they are least."""

    ways = (("a", "full", "star", 1), ("b", "star", "dot", 1), ("c", "dot", "plain", 3), ("d", "full", "plain", 4))

    def test_from_a_made_text(self):
        entry = Entry(1, SMALL, "full", None, FORMS, self.ways)
        self.assertEqual([row[0] for row in self.ask(self.ways, entry, "plain")[1]], ["d"])
        later = self.ask(self.ways, entry, "dot")[2]
        self.assertEqual(later.texts, (("star", ("bold",)), ("dot", ("bold",))))
        self.assertEqual(self.ask(self.ways, later, "plain")[1], (("c", "plain", ()),))

    def test_the_number_of_makers_from_where_the_chain_begins(self):
        makers = self.ways + (("e", "star", "page", 1), ("f", "page", "plain", 2))
        entry = Entry(1, SMALL, "full", None, FORMS, makers)
        later = self.ask(makers, entry, "dot")[2]
        self.assertEqual(self.ask(makers, later, "plain")[1], (("c", "plain", ()),))
        makers = makers[:-1] + (("f", "page", "plain", 1),)
        self.assertEqual([row[0] for row in self.ask(makers, later, "plain")[1]], ["e", "f"])

    def test_names_decide_where_it_begins(self):
        for first, second in (("m", "n"), ("n", "m")):
            makers = ((first, "full", "plain", 2), (second, "star", "plain", 2), ("a", "full", "star", 1))
            entry = Entry(1, SMALL, "full", None, FORMS, makers)
            later = self.ask(makers, entry, "star")[2]
            for order in permutations(makers):
                self.assertEqual(self.ask(order, later, "plain")[1], (("m", "plain", ()),))

    def test_texts_that_lack_what_is_due_do_not_count(self):
        makers = (
            ("a", "full", "cell", 1), ("b", "cell", "page", 1), ("c", "full", "dot", 1), ("d", "dot", "star", 7),
            ("e", "page", "star", 0), ("f", "page", "plain", 0),
        )
        entry = Entry(1, SMALL, "full", ("page", "star", "plain"), FORMS, makers)
        self.assertEqual(entry.dues, {"page": ("cells",), "star": ("bold",), "plain": ()})
        later = self.ask(makers, entry, "page")[2]
        self.assertEqual(later.texts, (("cell", ("cells",)), ("page", ("cells",))))
        self.assertEqual(self.ask(makers, later, "star")[1], (("c", "dot", ("bold",)), ("d", "star", ("bold",))))
        self.assertEqual(self.ask(makers, later, "plain")[1], (("f", "plain", ()),))


class TwoTexts(Case):
    """Two texts of the form all, made one after the other on two ways, with other sets."""

    forms = dict(FORMS, tab=("tab",) + FORMS["cell"][1:], box=("box",) + FORMS["cell"][1:])
    makers = (
        ("a", "full", "tab", 0), ("b", "tab", "all", 0), ("c", "full", "tree", 0), ("d", "tree", "all", 0),
        ("e", "all", "cell", 0), ("f", "all", "note", 0), ("g", "all", "plain", 0), ("h", "plain", "page", 0),
        ("i", "all", "box", 0),
    )
    to_page = (("j", "all", "page", 0),)

    def behind(self, *asks):
        entry = Entry(1, SMALL, "full", None, self.forms, self.makers)
        self.assertEqual([entry.dues[form] for form in ("cell", "note", "page")], [("cells",), ("nest", "link"), ()])
        for form in asks:
            entry = self.ask(self.makers, entry, form)[2]
        return entry

    def test_the_one_that_was_made_first_is_taken(self):
        cells_first = self.behind("cell", "note")
        self.assertEqual([text for text in cells_first.texts if text[0] == "all"], [
            ("all", ("cells",)), ("all", ("nest", "link")),
        ])
        self.assertEqual(self.ask(self.to_page, cells_first, "page")[1], (("j", "page", ("cells",)),))
        nest_first = self.behind("note", "cell")
        self.assertEqual([text for text in nest_first.texts if text[0] == "all"], [
            ("all", ("nest", "link")), ("all", ("cells",)),
        ])
        self.assertEqual(self.ask(self.to_page, nest_first, "page")[1], (("j", "page", ()),))

    def test_one_that_lacks_what_is_due_is_passed_over(self):
        entry = crashed(self.behind("note", "cell"), False)
        self.assertEqual(self.ask(self.makers[8:], entry, "box")[1], (("i", "box", ("cells",)),))


class Refusals(Case):
    makers = (("a", "full", "star", 1), ("b", "star", "plain", 1), ("c", "plain", "cell", 1))

    def test_not_offered(self):
        entry = Entry(1, SMALL, "full", ("plain", "star"), FORMS, self.makers)
        before = copy.deepcopy(state(entry))
        for form in ("full", "cell", "dot", "none", "", "Plain", "plain "):
            for makers in (self.makers, ()):
                for one in (entry, crashed(entry, False)):
                    with self.assertRaises(ClipError) as caught:
                        asked(FORMS, makers, one, form)
                    self.assertIs(type(caught.exception), NotOffered)
        self.assertEqual(state(entry), before)

    def test_gone_without_any_text(self):
        entry = crashed(Entry(1, SMALL, "full", None, FORMS, self.makers), False)
        for form in ("plain", "star", "full", "cell"):
            self.assertEqual(self.gone(self.makers, entry, form), ())

    def test_gone_without_makers(self):
        entry = Entry(1, SMALL, "full", None, FORMS, self.makers)
        self.assertEqual(self.gone((), entry, "plain"), ("full",))
        self.assertEqual(self.gone(self.makers[1:], entry, "plain"), ("full",))
        self.assertEqual(self.gone(self.makers[:1], entry, "plain"), ("full", "star"))
        later = self.ask(self.makers, entry, "plain")[2]
        self.assertEqual(self.gone((), later, "cell"), ("full", "plain", "star"))
        self.assertEqual(self.gone((), crashed(later, False), "cell"), ("plain", "star"))

    def test_gone_where_nothing_keeps_what_is_due(self):
        makers = (("a", "full", "page", 1), ("b", "page", "note", 1), ("c", "page", "cell", 1), ("d", "cell", "dot", 0))
        entry = Entry(1, SMALL, "full", ("note", "cell", "page"), FORMS, makers)
        self.assertEqual(entry.dues["note"], ("bold",))
        others = (("e", "full", "cell", 0), ("f", "cell", "note", 0), ("g", "full", "dot", 0))
        self.assertEqual(self.gone(others, entry, "note"), ("dot", "full"))
        later = self.ask(others, entry, "cell")[2]
        self.assertEqual(self.gone(others, later, "note"), ("dot", "full"))
        self.assertEqual(self.gone(others, crashed(later, False), "note"), ())

    def test_gone_where_makers_only_lead_away(self):
        makers = (("a", "full", "star", 1), ("b", "full", "plain", 1))
        entry = crashed(self.ask(makers, Entry(1, SMALL, "full", None, FORMS, makers), "plain")[2], False)
        self.assertEqual(self.gone(makers, entry, "full"), ())
        self.assertEqual(self.gone(makers, entry, "star"), ())


class AllQuestions(Case):
    def expected(self, makers, texts, due, form):
        """The rows, found by going along all chains, or the closed set."""
        texts = [text for text in texts if set(due) <= set(text[1])]
        useful = going(self.forms, makers, due)
        chains = []
        for start, _ in texts:
            chains += [(label(chain), start, chain) for end, chain in chains_from(useful, start) if end == form]
        if not chains:
            return None, led_to(useful, [start for start, _ in texts])
        _, start, chain = min(chains)
        left = [features for name, features in texts if name == start][0]
        rows = []
        for name, _, target, _ in chain:
            left = tuple(feature for feature in left if feature in FEATURES_OF[target])
            rows.append((name, target, left))
        return tuple(rows), None

    def test_many_histories_of_one_entry(self):
        count = 0
        for seed in range(150):
            chooser, self.forms, makers = random_graph(seed)
            own = chooser.choice(sorted(self.forms))
            entry = Entry(1, keep(SMALL, FEATURES_OF[own]), own, None, self.forms, makers)
            for _ in range(12):
                now = tuple(chooser.sample(makers, chooser.randint(0, len(makers))))
                form = chooser.choice(list(entry.dues))
                texts = (((own, entry.features),) if entry.is_owned else ()) + entry.texts
                rows, closed = self.expected(now, texts, entry.dues[form], form)
                if rows is None:
                    self.assertEqual(self.gone(now, entry, form), closed)
                else:
                    _, told, entry = self.ask(now, entry, form)
                    self.assertEqual(told, rows)
                    count += len(rows)
                if chooser.random() < 0.1:
                    entry = crashed(entry, False)
        self.assertGreater(count, 150)


class Unchanged(Case):
    makers = (("a", "full", "star", 1), ("b", "star", "plain", 1))

    def test_forms_and_makers(self):
        forms = dict(FORMS)
        entry = Entry(1, SMALL, "full", None, forms, self.makers)
        asked(forms, self.makers, entry, "plain")
        self.assertEqual(list(forms.items()), list(FORMS.items()))

    def test_entries_do_not_share_what_can_be_changed(self):
        entry = Entry(1, SMALL, "full", None, FORMS, self.makers)
        for form in ("full", "plain"):
            later = asked(FORMS, self.makers, entry, form)[2]
            self.assertIsNot(later, entry)
            later.dues.clear()
            later.texts = ()
            later.is_owned = False
            self.assertEqual(list(entry.dues), ["full", "plain", "star"])
            self.assertEqual((entry.texts, entry.is_owned), ((), True))
        later = asked(FORMS, self.makers, entry, "plain")[2]
        entry.dues.clear()
        self.assertEqual(later.dues, {"full": ALL_FEATURES, "plain": (), "star": ("bold",)})

    def test_an_entry_is_returned(self):
        entry = Entry(1, SMALL, "full", None, FORMS, self.makers)
        for form in ("full", "plain"):
            self.assertIs(type(asked(FORMS, self.makers, entry, form)[2]), Entry)
