"""Points 2 and 10: makers among all objects, and the texts at the ends of chains."""

import copy
import unittest

from clipforms.contents import keep
from clipforms.forms import read, write
from clipforms.makers import is_maker, made
from tests.samples import FEATURES_OF, PLAIN, RICH, SMALL, forms_named, many_contents, objects_of_all_kinds

FORMS = forms_named("full", "star", "dot")
MAKER = ("m1", "star", "plain", 7)


def changed(at, part):
    """The maker with another part."""
    return MAKER[:at] + (part,) + MAKER[at + 1:]


class Case(unittest.TestCase):
    def assert_maker(self, thing, forms=None):
        self.assertIs(is_maker(FORMS if forms is None else forms, thing), True, repr(thing))

    def assert_no_maker(self, thing, forms=None):
        self.assertIs(is_maker(FORMS if forms is None else forms, thing), False, repr(thing)[:200])


class Makers(Case):
    def test_between_all_forms(self):
        for source in FORMS:
            for target in FORMS:
                self.assertIs(is_maker(FORMS, ("m", source, target, 3)), source != target, (source, target))

    def test_costs(self):
        for cost in (0, 1, 2, 10, 500, 999, 1000):
            self.assert_maker(changed(3, cost))
        for cost in (-1, 1001, -1000, 10 ** 30 - 1, 1 - 10 ** 30):
            self.assert_no_maker(changed(3, cost))
        for cost in (True, False, None, "", "0", "7", (), (7,), [7], [], {}, {7: 7}):
            self.assert_no_maker(changed(3, cost))

    def test_names(self):
        for name in ("a", "0", "z9", "abcdefghijkl", "007", "plain", "star", "m1"):
            self.assert_maker(changed(0, name))
        for name in ("", "abcdefghijklm", "A", "a b", " a", "a ", "a_b", "a/b", "a>b", "a\n", "\t", "a" * 200000):
            self.assert_no_maker(changed(0, name))
        for name in (0, 1, True, False, None, (), ("a",), ["a"], [], {}, {"a": "a"}):
            self.assert_no_maker(changed(0, name))

    def test_forms_that_are_not_known(self):
        for at in (1, 2):
            for name in ("", "none", "Star", "star ", " star", "ful", "fulll", "full\n", "m1"):
                self.assert_no_maker(changed(at, name))
            for name in (0, None, True, (), ("full",), ["full"], [], {}, {"full": 0}, FORMS["full"], PLAIN, FORMS):
                self.assert_no_maker(changed(at, name))

    def test_known_is_what_is_among_the_forms(self):
        self.assert_no_maker(MAKER, forms_named("full"))
        self.assert_maker(MAKER, forms_named("star"))
        self.assert_no_maker(("m", "plain", "star", 0), {"plain": PLAIN})
        self.assert_no_maker(("m", "plain", "plain", 0), {"plain": PLAIN})

    def test_number_of_parts(self):
        for thing in ((), MAKER[:1], MAKER[:3], MAKER + (0,), MAKER + MAKER, (MAKER,)):
            self.assert_no_maker(thing)

    def test_other_objects(self):
        for thing in objects_of_all_kinds():
            self.assert_no_maker(thing)
        for thing in (list(MAKER), {part: 0 for part in MAKER}, "abcd", ["m", "star", "plain", 7]):
            self.assert_no_maker(thing)

    def test_nothing_is_modified(self):
        things = objects_of_all_kinds() + [list(MAKER), MAKER, (["m"], ["star"], ["plain"], [7])]
        before = copy.deepcopy((FORMS, things))
        for thing in things:
            is_maker(FORMS, thing)
        self.assertEqual(repr((FORMS, things)), repr(before))


class Made(unittest.TestCase):
    forms = forms_named(*FEATURES_OF)
    makers = (
        ("a", "full", "all", 1), ("b", "all", "page", 0), ("c", "page", "full", 1000), ("d", "full", "note", 3),
        ("e", "note", "star", 2), ("f", "star", "plain", 2), ("g", "plain", "page", 2), ("h", "all", "full", 1),
    )

    def along(self, names, content):
        """The text of a chain, maker by maker."""
        by_name = {maker[0]: maker for maker in self.makers}
        text = write(self.forms[by_name[names[0]][1]], content)
        for name in names:
            _, source, target, _ = by_name[name]
            text = write(self.forms[target], read(self.forms[source], text))
        return text

    def test_one_maker(self):
        for name, source, target, _ in self.makers:
            for content in (RICH, SMALL):
                text = write(self.forms[target], keep(content, FEATURES_OF[source]))
                self.assertEqual(made(self.forms, self.makers, (name,), content), text, name)

    def test_several_makers(self):
        for names in (("a", "b"), ("b", "c"), ("a", "b", "c", "d"), ("d", "e", "f", "g"), ("a", "h", "a", "h", "d")):
            for content in (RICH, SMALL):
                self.assertEqual(made(self.forms, self.makers, names, content), self.along(names, content), names)

    def test_what_is_lost_on_the_way_does_not_come_back(self):
        content = read(self.forms["full"], ">*a*|_b_")
        self.assertEqual(made(self.forms, self.makers, ("c",), content), "*a*|_b_")
        self.assertEqual(made(self.forms, self.makers, ("d", "e"), content), "*a* b")
        self.assertEqual(made(self.forms, self.makers, ("f", "g"), content), "a b")
        self.assertEqual(made(self.forms, self.makers, ("d", "e", "f", "g"), content), "a b")
        self.assertEqual(made(self.forms, self.makers, ("a", "h"), content), ">*a*|_b_")

    def test_signs_in_texts(self):
        content = read(self.forms["full"], "!*a!|!!")
        self.assertEqual(made(self.forms, self.makers, ("d", "e"), content), "!*a|!!")
        self.assertEqual(made(self.forms, self.makers, ("d", "e", "f"), content), "*a|!")

    def test_many_contents(self):
        for content in many_contents():
            for names in (("a", "b"), ("d", "e", "f")):
                last = {"b": "page", "f": "plain"}[names[-1]]
                text = write(self.forms[last], content)
                self.assertEqual(made(self.forms, self.makers, names, content), text)

    def test_order_of_the_makers(self):
        for names in (("a",), ("a", "b", "c")):
            text = made(self.forms, self.makers, names, SMALL)
            self.assertEqual(made(self.forms, self.makers[::-1], names, SMALL), text)

    def test_nothing_is_modified(self):
        before = copy.deepcopy((self.forms, self.makers, RICH))
        made(self.forms, self.makers, ("a", "b"), RICH)
        self.assertEqual((self.forms, self.makers, RICH), before)
