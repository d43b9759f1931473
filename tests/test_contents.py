"""Points 2 and 4: contents and words among all objects."""

import copy
import unittest

from clipforms.contents import is_content, is_word
from tests.samples import (
    ALL, ALL_MARKS, BOLD, LINK, NO, RICH, SLANT, cell, many_contents, nested, objects_of_all_kinds, one_line,
)


def replaced(thing, change):
    """All objects like this one, with one part (or all of it) put through the change."""
    yield change(thing)
    if isinstance(thing, tuple):
        for at, part in enumerate(thing):
            for other in replaced(part, change):
                yield thing[:at] + (other,) + thing[at + 1:]


def is_same(one, other):
    """Whether two objects are the same, True and 1 apart."""
    return repr(one) == repr(other)


class Case(unittest.TestCase):
    def assert_content(self, thing):
        self.assertIs(is_content(thing), True, repr(thing)[:200])

    def assert_no_content(self, thing):
        self.assertIs(is_content(thing), False, repr(thing)[:200])


class Contents(Case):
    def test_ordinary_ones(self):
        for content in many_contents():
            self.assert_content(content)

    def test_number_of_lines(self):
        line = (0, (cell("a"),))
        self.assert_no_content(())
        self.assert_content((line,))
        self.assert_content((line,) * 199)
        self.assert_content((line,) * 200)
        self.assert_no_content((line,) * 201)

    def test_number_of_cells(self):
        self.assert_no_content(((0, ()),))
        self.assert_content(one_line(cell()))
        self.assert_content(one_line(*[cell("a")] * 2))
        self.assert_content(one_line(*[cell("a")] * 12))
        self.assert_no_content(one_line(*[cell("a")] * 13))
        self.assert_no_content(one_line(*[cell()] * 13))

    def test_length_of_a_cell_among_several(self):
        self.assert_content(one_line(cell("a" * 40), cell("b" * 40)))
        self.assert_content(one_line(*[cell("a" * 40)] * 12))
        for at in range(3):
            cells = [cell("a"), cell(), cell("b" * 40)]
            cells[at] = cell("c" * 41)
            self.assert_no_content(one_line(*cells))
        self.assert_content(one_line(cell("a" * 20, ("b" * 20, BOLD)), cell()))
        self.assert_no_content(one_line(cell("a" * 20, ("b" * 21, BOLD)), cell()))
        self.assert_no_content(one_line(cell(), cell(("b" * 21, BOLD), "a" * 20)))

    def test_length_of_an_only_cell(self):
        self.assert_content(one_line(cell("a" * 41)))
        self.assert_content(one_line(cell("a" * 491)))
        self.assert_no_content(one_line(cell("a" * 492)))
        self.assert_content(one_line(cell("a" * 245, ("b" * 246, LINK))))
        self.assert_no_content(one_line(cell("a" * 246, ("b" * 246, LINK))))

    def test_each_line_has_its_own_bounds(self):
        long_line = (0, (cell("a" * 491),))
        wide_line = (0, (cell("a" * 40),) * 12)
        self.assert_content((long_line, wide_line, long_line))
        self.assert_no_content((long_line, wide_line, (0, (cell("a" * 492),))))
        self.assert_no_content((long_line, wide_line, (0, (cell("a" * 41), cell()))))

    def test_depth(self):
        for depth in range(7):
            self.assert_content(((depth, (cell("a"),)),))
        for depth in (-1, 7, 10 ** 29, -10 ** 29, True, False, None, "", "0", (), [], {}, (0,)):
            self.assert_no_content(((depth, (cell("a"),)),))

    def test_texts(self):
        for code in range(32, 127):
            self.assert_content(one_line(cell("a" + chr(code))))
        for text in ("", "\n", "\t", "a\n", "\tb", "a\nb", "\x1f", "\x7f", "\x00", "\u00e9"):
            self.assert_no_content(one_line(cell((text, NO))))
        for text in (0, 1, None, True, ("a",), ["a"], {"a": "a"}, ()):
            self.assert_no_content(one_line(((text, NO),)))

    def test_neighbours(self):
        for marks in ALL_MARKS:
            self.assert_no_content(one_line((("a", marks), ("b", marks))))
            self.assert_content(one_line((("a", marks),), (("b", marks),)))
            for other in ALL_MARKS:
                if other != marks:
                    self.assert_content(one_line((("a", marks), ("b", other))))
                    self.assert_content(one_line((("a", marks), ("b", other), ("c", marks))))
                    self.assert_no_content(one_line((("a", marks), ("b", other), ("c", other))))
                    self.assert_no_content(one_line((("a", marks), ("b", marks), ("c", other))))

    def test_links(self):
        for link in ("", "a", "0", "z9", "a" * 12):
            self.assert_content(one_line((("t", (link, False, False)),)))
        for link in ("a" * 13, "A", "a b", "a-b", " ", "a\n", "\t", 0, 1, None, False, True, (), ("a",), ["a"], [], {}):
            self.assert_no_content(one_line((("t", (link, False, False)),)))

    def test_bold_and_slant(self):
        for value in (0, 1, None, "", "a", (), [], {}, "True"):
            self.assert_no_content(one_line((("t", ("", value, False)),)))
            self.assert_no_content(one_line((("t", ("", False, value)),)))

    def test_a_wrong_piece_in_any_place(self):
        good = (("a", NO), ("b", BOLD), ("c", SLANT))
        for at in range(3):
            for wrong in (("", ALL), ("d", ("", 1, True)), ("\t", LINK), (4, LINK), ["d", LINK], "dL", ("d",)):
                self.assert_no_content(one_line(good[:at] + (wrong,) + good[at + 1:]))

    def test_a_wrong_line_in_any_place(self):
        lines = ((0, (cell("a"),)),) * 3
        for at in range(3):
            for wrong in ((7, (cell("a"),)), (0, ()), (0,), (0, (cell("a"),), 0), [0, (cell("a"),)], 0, None, "ab", ()):
                self.assert_no_content(lines[:at] + (wrong,) + lines[at + 1:])


class NearlyContents(Case):
    def test_lists_in_the_place_of_tuples(self):
        for other in replaced(RICH, lambda part: list(part) if isinstance(part, tuple) else part):
            if not is_same(other, RICH):
                self.assert_no_content(other)

    def test_integers_in_the_place_of_bools(self):
        for other in replaced(RICH, lambda part: int(part) if isinstance(part, bool) else part):
            if not is_same(other, RICH):
                self.assert_no_content(other)

    def test_bools_in_the_place_of_integers(self):
        for other in replaced(RICH, lambda part: bool(part) if type(part) is int else part):
            if not is_same(other, RICH):
                self.assert_no_content(other)

    def test_other_objects_in_the_place_of_any_part(self):
        for wrong in (None, -1, 7, [], {}, {"a": 1}, "\n", (0,), ((None,),), nested(20, lambda thing: [thing])):
            for other in replaced(RICH, lambda part: wrong):
                self.assert_no_content(other)

    def test_a_part_too_few_or_too_many(self):
        for line in ((), (0,), ((cell("a"),),), (0, (cell("a"),), 0), (0, (cell("a"),), ())):
            self.assert_no_content((line,))
        for piece in ((), ("a",), (NO,), ("a", NO, NO), ("a", NO, ""), "aN"):
            self.assert_no_content(one_line((piece,)))
        for marks in ((), ("",), ("", False), ("", False, False, False), (False, False), ("a", "b", "c"), "abc", None):
            self.assert_no_content(one_line((("a", marks),)))

    def test_keys_in_the_place_of_tuples(self):
        self.assert_no_content({0: 0})
        self.assert_no_content({(0, (cell("a"),)): 0})
        self.assert_no_content(({0: 0, (cell("a"),): 0},))
        self.assert_no_content(((0, {cell("a"): 0}),))
        self.assert_no_content(one_line({("a", NO): 0}))
        self.assert_no_content(one_line(({"a": 0, NO: 0},)))
        self.assert_no_content(one_line((("a", {"": 0, False: 0, True: 0}),)))


class Words(unittest.TestCase):
    def test_words(self):
        for word in ("a", "z", "0", "9", "ab", "a1b2", "007", "a" * 11, "a" * 12, "0123456789ab"):
            self.assertIs(is_word(word), True, word)

    def test_each_character(self):
        for code in list(range(0, 128)) + [0xe9, 0xb2, 0x661, 0x3b1]:
            character = chr(code)
            expected = character in "abcdefghijklmnopqrstuvwxyz0123456789"
            self.assertIs(is_word(character), expected, repr(character))
            self.assertIs(is_word("a" + character), expected, repr(character))
            self.assertIs(is_word(character + "a"), expected, repr(character))

    def test_no_words(self):
        for thing in ("", "a" * 13, "a" * 200000, "Ab", "a b", " a", "a ", "a_b", "a-b", "a.b", "a\n", "\ta"):
            self.assertIs(is_word(thing), False, repr(thing)[:50])
        for thing in (0, 1, 12, True, False, None, (), ("a",), ["a"], [], {}, {"a": "a"}, ("a", "b"), b"a"):
            self.assertIs(is_word(thing), False, repr(thing))


class AnyObject(unittest.TestCase):
    def test_no_content_among_them(self):
        for thing in objects_of_all_kinds():
            self.assertIs(is_content(thing), False, repr(thing)[:100])

    def test_only_the_words_among_them(self):
        for thing in objects_of_all_kinds():
            self.assertIs(is_word(thing), False, repr(thing)[:100])

    def test_nothing_is_modified(self):
        things = objects_of_all_kinds() + [[list(RICH)], [[0, [[["a", ["", False, False]]]]]]]
        before = copy.deepcopy(things)
        for thing in things:
            is_content(thing)
            is_word(thing)
        self.assertTrue(is_same(things, before))
