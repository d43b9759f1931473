"""Points 2 and 6: forms among all objects, and what they carry."""

import copy
import unittest

from clipforms import forms
from clipforms.forms import carried, is_form
from tests.samples import ALONE, FULL, PLAIN, feature_sets, form_carrying, objects_of_all_kinds


def changed(at, text):
    """The full form with another string."""
    return FULL[:at] + (text,) + FULL[at + 1:]


class Case(unittest.TestCase):
    def assert_form(self, thing):
        self.assertIs(is_form(thing), True, repr(thing))

    def assert_no_form(self, thing):
        self.assertIs(is_form(thing), False, repr(thing)[:200])


class Forms(Case):
    def test_ordinary_ones(self):
        self.assert_form(PLAIN)
        self.assert_form(FULL)
        for form in ALONE.values():
            self.assert_form(form)
        for features in feature_sets():
            self.assert_form(form_carrying(features))
        self.assert_form(("other", "", "", "", "", "", "", "", ""))

    def test_names(self):
        for name in ("a", "z", "a1", "abcdefg", "abcdefgh", "a1234567", "z0z0z0z0", "plain"):
            self.assert_form(changed(0, name))
            self.assert_form((name,) + PLAIN[1:])
        for name in ("", "abcdefghi", "1a", "0", "A", "aB", "a b", " a", "a ", "a_", "_a", "a-b", "a\n", "\ta", "a.b"):
            self.assert_no_form(changed(0, name))
            self.assert_no_form((name,) + PLAIN[1:])

    def test_each_character_of_a_name(self):
        letters = "abcdefghijklmnopqrstuvwxyz"
        for code in range(128):
            character = chr(code)
            self.assertIs(is_form((character,) + PLAIN[1:]), character in letters)
            self.assertIs(is_form(("a" + character,) + PLAIN[1:]), character in letters + "0123456789")
            self.assertIs(is_form(("a" + character + "a",) + PLAIN[1:]), character in letters + "0123456789")

    def test_number_of_strings(self):
        self.assert_no_form(())
        self.assert_no_form(FULL[:8])
        self.assert_no_form(PLAIN[:8])
        self.assert_no_form(PLAIN[:1])
        self.assert_no_form(FULL + ("",))
        self.assert_no_form(PLAIN + ("",))

    def test_each_character_as_a_sign(self):
        for code in range(128):
            character = chr(code)
            expected = 32 < code < 127 and not character.isalnum()
            for place in (1, 2, 3, 4):
                form = list(PLAIN)
                form[place] = character
                form[8] = "!" if character != "!" else "?"
                self.assertIs(is_form(tuple(form)), expected, repr((character, place)))
            for place in (5, 6, 7):
                form = ["x", "", "", "", "", "(", "?", ")", "~"]
                form[place] = character
                self.assertIs(is_form(tuple(form)), expected and character not in form[5:place] + form[place + 1:])
            self.assertIs(is_form(("x", "`", "", "", "", "", "", "", character)), expected and character != "`")

    def test_longer_signs(self):
        for place in range(1, 9):
            for sign in ("##", "# ", "#a", "  ", "\n#", "###", "ab", "12", "#" * 9):
                self.assert_no_form(changed(place, sign))

    def test_signs_that_are_the_same(self):
        for place in range(1, 9):
            for other in range(1, 9):
                if place != other:
                    self.assert_no_form(changed(place, FULL[other]))

    def test_other_signs(self):
        self.assert_form(("x", "#", "$", "%", "&", "'", "(", ")", "\\"))
        self.assert_form(("x", "\"", "", ",", "", "-", ".", "/", ";"))
        self.assert_form(("x", "", "<", "", "=", "?", "@", "^", "`"))
        self.assert_form(("x", "{", "", "}", "~", "", "", "", "+"))

    def test_links_are_all_there_or_all_missing(self):
        for presence in range(8):
            links = tuple(sign if presence >> at & 1 else "" for at, sign in enumerate("[:]"))
            self.assertIs(is_form(("x", "|", "", "", "") + links + ("!",)), presence in (0, 7), links)
            self.assertIs(is_form(("x", "", "", "", "") + links + ("!",)), presence == 7, links)

    def test_escape_is_there_with_another_sign(self):
        self.assert_no_form(PLAIN[:8] + ("!",))
        self.assert_no_form(changed(8, ""))
        for form in ALONE.values():
            self.assert_no_form(form[:8] + ("",))

    def test_plain(self):
        self.assertEqual(forms.PLAIN, ("plain", "", "", "", "", "", "", "", ""))
        self.assertIs(is_form(forms.PLAIN), True)


class AnyObject(Case):
    def test_no_form_among_them(self):
        for thing in objects_of_all_kinds():
            self.assert_no_form(thing)

    def test_lists_and_others_in_the_place_of_tuples(self):
        self.assert_no_form(list(PLAIN))
        self.assert_no_form(list(FULL))
        self.assert_no_form("".join(FULL))
        self.assert_no_form("a|>*_[:]!")
        self.assert_no_form({text: text for text in FULL})
        self.assert_no_form((FULL,))

    def test_others_in_the_place_of_strings(self):
        for at in range(9):
            for wrong in (None, 0, 1, True, False, (), ("#",), ["#"], [], {}, {"#": "#"}, ("",)):
                self.assert_no_form(changed(at, wrong))
                self.assert_no_form(PLAIN[:at] + (wrong,) + PLAIN[at + 1:])

    def test_nothing_is_modified(self):
        things = objects_of_all_kinds() + [list(FULL), [list(FULL)]]
        before = copy.deepcopy(things)
        for thing in things:
            is_form(thing)
        self.assertEqual(repr(things), repr(before))


class Carried(unittest.TestCase):
    def test_each_alone(self):
        for feature, form in ALONE.items():
            self.assertEqual(carried(form), (feature,))

    def test_all_and_none(self):
        self.assertEqual(carried(FULL), ("cells", "nest", "link", "bold", "slant"))
        self.assertEqual(carried(PLAIN), ())
        self.assertEqual(carried(("other",) + PLAIN[1:]), ())

    def test_every_set_in_order(self):
        for features in feature_sets():
            self.assertEqual(carried(form_carrying(features)), features)
            self.assertIsInstance(carried(form_carrying(features)), tuple)
