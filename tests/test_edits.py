"""Points 2 and 14: edits, at and beyond the places that there are, and what is refused."""

import copy
import random
import unittest
from itertools import product

from clipforms.contents import is_content
from clipforms.documents import checked, edited
from clipforms.errors import NoPlace, NotCarried, TooLarge
from tests.samples import (
    ALL, ALL_FEATURES, BOLD, FULL, LINK, NO, PLAIN, RICH, SLANT, SMALL, cell, feature_sets, form_carrying, loose,
    one_line, tight,
)

EMPTY = one_line(cell())
TWELVE = ((2, tuple(cell("x" * size, ("y", BOLD)) for size in range(1, 13))), (0, (cell("ab", ("cd", LINK)),)))


class Missing(Exception):
    """What the edit tells of is not there."""


def expected(content, edit):
    """The content behind an edit, worked out character by character."""
    lines = loose(content)
    word, *places = edit
    if word == "insert":
        need(places[0], len(lines) + 1)
        lines[places[0]:places[0]] = loose(places[1])
        return tight(lines)
    need(places[0], len(lines))
    if word == "delete":
        need(places[1], len(lines))
        if places[0] > places[1]:
            raise Missing
        del lines[places[0]:places[1] + 1]
        return tight(lines or [[0, [[]]]])
    if word in ("glue", "depth"):
        change_line(lines, *edit)
    elif word in ("widen", "narrow", "cut"):
        change_cells(lines, *edit)
    else:
        change_characters(lines, *edit)
    return tight(lines)


def need(at, end):
    if at not in range(end):
        raise Missing


def change_line(lines, word, line, depth=None):
    if word == "depth":
        lines[line][0] = depth
        return
    need(line + 1, len(lines))
    _, cells = lines.pop(line + 1)
    lines[line][1][-1].extend(cells[0])
    lines[line][1].extend(cells[1:])


def change_cells(lines, word, line, cell, offset=None):
    depth, cells = lines[line]
    need(cell, len(cells) + (word == "widen"))
    if word == "widen":
        cells.insert(cell, [])
    elif word == "narrow":
        need(1, len(cells))
        del cells[cell]
    else:
        need(offset, len(cells[cell]) + 1)
        lines.insert(line + 1, [depth, [cells[cell][offset:]] + cells[cell + 1:]])
        lines[line] = [depth, cells[:cell] + [cells[cell][:offset]]]


def change_characters(lines, word, line, cell, start, *more):
    need(cell, len(lines[line][1]))
    chars = lines[line][1][cell]
    need(start, len(chars) + 1)
    if word == "enter":
        chars[start:start] = [(char, more[1]) for char in more[0]]
        return
    need(more[0], len(chars) + 1)
    if start >= more[0]:
        raise Missing
    if word == "erase":
        del chars[start:more[0]]
        return
    at = ("link", "bold", "slant").index(more[1])
    for place in range(start, more[0]):
        char, marks = chars[place]
        chars[place] = (char, marks[:at] + (more[2],) + marks[at + 1:])


def edits_of(content):
    """Edits of all kinds, at all lines and cells of a content and one beyond them, and at many offsets."""
    for line in range(-1, len(content) + 1):
        yield ("glue", line)
        yield from (("depth", line, depth) for depth in (-1, 0, 3, 6, 7))
        yield from (("insert", line, lines) for lines in ((), SMALL, RICH[1:2]))
        yield from (("delete", line, last) for last in range(-1, len(content) + 1))
        cells = content[line][1] if 0 <= line < len(content) else ((),)
        for at in range(-1, len(cells) + 2):
            yield from (("widen", line, at), ("narrow", line, at))
            size = sum(len(text) for text, _ in cells[at]) if 0 <= at < len(cells) else 0
            offsets = sorted({-1, 0, 1, 2, size // 2, size - 1, size, size + 1})
            for offset in offsets:
                yield ("cut", line, at, offset)
                yield from (("enter", line, at, offset, text, marks) for text, marks in (("z", NO), ("q >", ALL)))
            for start, end in product(offsets, offsets):
                yield ("erase", line, at, start, end)
                yield ("mark", line, at, start, end, "bold", True)
                yield ("mark", line, at, start, end, "link", "w1")
                yield ("mark", line, at, start, end, "slant", False)


class AllKinds(unittest.TestCase):
    def check(self, form, content, edit):
        before = copy.deepcopy((content, edit))
        try:
            wanted = expected(content, edit)
        except Missing:
            with self.assertRaises(NoPlace):
                edited(form, content, edit)
        else:
            if is_content(wanted):
                self.assertEqual(edited(form, content, edit), wanted)
            else:
                with self.assertRaises(TooLarge):
                    edited(form, content, edit)
        self.assertEqual((content, edit), before)

    def test_everywhere(self):
        for content in (SMALL, RICH, EMPTY, TWELVE, one_line(cell("abc")), one_line(cell("a"), cell())):
            for edit in edits_of(content):
                with self.subTest(edit=edit):
                    self.check(FULL, content, edit)

    def test_one_behind_another(self):
        chooser = random.Random(5)
        for content in (SMALL, RICH, EMPTY):
            for _ in range(60):
                edit = chooser.choice(list(edits_of(content)))
                self.check(FULL, content, edit)
                try:
                    content = edited(FULL, content, edit)
                except (NoPlace, TooLarge):
                    pass
                self.assertTrue(is_content(content))


def line_of(*sizes):
    """A content of one line whose cells have so many characters."""
    return one_line(*[cell("x" * size) if size else cell() for size in sizes])


class Limits(unittest.TestCase):
    def check(self, content, edit, behind):
        if behind is None:
            with self.assertRaises(TooLarge):
                edited(FULL, content, edit)
        else:
            self.assertEqual(edited(FULL, content, edit), behind)

    def test_the_only_cell(self):
        self.check(line_of(490), ("enter", 0, 0, 0, "x", NO), line_of(491))
        self.check(line_of(491), ("enter", 0, 0, 0, "x", NO), None)
        self.check(line_of(0), ("enter", 0, 0, 0, "x" * 491, NO), line_of(491))
        self.check(line_of(0), ("enter", 0, 0, 0, "x" * 492, NO), None)
        self.check(line_of(300) + line_of(191), ("glue", 0), line_of(491))
        self.check(line_of(300) + line_of(192), ("glue", 0), None)
        self.check(line_of(491), ("erase", 0, 0, 0, 491), line_of(0))

    def test_one_of_several_cells(self):
        self.check(line_of(39, 0), ("enter", 0, 0, 39, "x", NO), line_of(40, 0))
        self.check(line_of(40, 0), ("enter", 0, 0, 0, "x", NO), None)
        self.check(line_of(0, 40), ("enter", 0, 1, 40, "x", NO), None)
        self.check(line_of(40), ("widen", 0, 0), line_of(0, 40))
        self.check(line_of(40), ("widen", 0, 1), line_of(40, 0))
        self.check(line_of(41), ("widen", 0, 0), None)
        self.check(line_of(41), ("widen", 0, 1), None)
        self.check(line_of(20, 20) + line_of(20, 1), ("glue", 0), line_of(20, 40, 1))
        self.check(line_of(20, 20) + line_of(21, 1), ("glue", 0), None)
        self.check(line_of(41) + line_of(0, 0), ("glue", 0), None)
        self.check(line_of(0, 0) + line_of(41), ("glue", 0), None)

    def test_cells(self):
        eleven, twelve = line_of(*range(11)), line_of(*range(12))
        self.check(eleven, ("widen", 0, 11), line_of(*range(11), 0))
        for at in (0, 6, 12):
            self.check(twelve, ("widen", 0, at), None)
        self.check(twelve, ("narrow", 0, 11), eleven)
        self.check(twelve, ("narrow", 0, 0), line_of(*range(1, 12)))
        self.check(line_of(*range(6)) + line_of(*range(7)), ("glue", 0), line_of(0, 1, 2, 3, 4, 5, 1, 2, 3, 4, 5, 6))
        self.check(line_of(*range(7)) + line_of(*range(7)), ("glue", 0), None)

    def test_lines(self):
        line = line_of(1)
        self.check(line * 199, ("cut", 0, 0, 1), line + line_of(0) + line * 198)
        self.check(line * 200, ("cut", 0, 0, 1), None)
        self.check(line * 199, ("insert", 199, line), line * 200)
        self.check(line * 200, ("insert", 200, line), None)
        self.check(line * 200, ("insert", 0, line), None)
        self.check(line, ("insert", 0, line * 200), None)
        self.check(line * 200, ("insert", 200, ()), line * 200)
        self.check(line * 200, ("delete", 0, 198), line)
        self.check(line * 200, ("glue", 198), line * 198 + line_of(2))

    def test_depths(self):
        content = RICH[1:2]
        for depth in range(7):
            self.check(content, ("depth", 0, depth), ((depth, content[0][1]),))
        for depth in (-1, 7, 8, 1000):
            self.check(content, ("depth", 0, depth), None)

    def test_all_lines_are_deleted(self):
        for content in (EMPTY, SMALL, RICH, ((4, (cell(),)),)):
            self.check(content, ("delete", 0, len(content) - 1), EMPTY)


class Pieces(unittest.TestCase):
    def check(self, content, edit, *pieces):
        self.assertEqual(edited(FULL, content, edit), one_line(cell(*pieces)))

    def test_equal_neighbours_are_one_piece(self):
        content = one_line(cell("ab", ("cd", BOLD), "ef"))
        self.check(content, ("erase", 0, 0, 2, 4), "abef")
        self.check(content, ("erase", 0, 0, 1, 3), "a", ("d", BOLD), "ef")
        self.check(content, ("mark", 0, 0, 2, 4, "bold", False), "abcdef")
        self.check(content, ("mark", 0, 0, 0, 6, "bold", True), ("abcdef", BOLD))
        self.check(content, ("mark", 0, 0, 1, 3, "bold", True), "a", ("bcd", BOLD), "ef")
        self.check(content, ("enter", 0, 0, 2, "x", NO), "abx", ("cd", BOLD), "ef")
        self.check(content, ("enter", 0, 0, 2, "x", BOLD), "ab", ("xcd", BOLD), "ef")
        self.check(content, ("enter", 0, 0, 3, "x", BOLD), "ab", ("cxd", BOLD), "ef")
        self.check(content, ("enter", 0, 0, 3, "x", NO), "ab", ("c", BOLD), "x", ("d", BOLD), "ef")
        self.check(one_line(cell("a")) + one_line(cell("b", ("c", LINK))), ("glue", 0), "ab", ("c", LINK))

    def test_other_marks_stay(self):
        content = one_line(cell(("ab", ALL)))
        self.check(content, ("mark", 0, 0, 0, 1, "link", ""), ("a", ("", True, True)), ("b", ALL))
        self.check(content, ("mark", 0, 0, 0, 1, "link", "w2"), ("a", ("w2", True, True)), ("b", ALL))
        self.check(content, ("mark", 0, 0, 1, 2, "bold", False), ("a", ALL), ("b", ("w1", False, True)))
        self.check(content, ("mark", 0, 0, 0, 2, "slant", False), ("ab", ("w1", True, False)))


class Refused(unittest.TestCase):
    many = one_line(cell("x" * 491)) * 200

    def refuse(self, error, form, content, edit):
        with self.assertRaises(error) as caught:
            edited(form, content, edit)
        return caught.exception

    def test_no_place_ahead_of_too_large(self):
        for edit in [
            ("enter", 200, 0, 0, "x", BOLD), ("enter", 0, 1, 0, "x", NO), ("enter", 0, 0, 492, "x", NO),
            ("enter", 0, 0, -1, "x", NO), ("depth", 200, 9), ("depth", -1, 9), ("widen", 0, 2), ("widen", 0, -1),
            ("insert", 201, self.many), ("insert", -1, self.many), ("cut", 0, 0, 492), ("cut", 0, 0, -1),
            ("glue", 199), ("glue", -1), ("delete", 3, 2), ("delete", -1, 0), ("delete", 0, 200), ("narrow", 0, 0),
            ("erase", 0, 0, 491, 492), ("mark", 0, 0, -1, 1, "bold", True), ("mark", 0, 0, 3, 3, "bold", True),
        ]:
            with self.subTest(edit):
                self.refuse(NoPlace, PLAIN, self.many, edit)

    def test_too_large_ahead_of_not_carried(self):
        for edit in [
            ("enter", 0, 0, 0, "x", BOLD), ("depth", 0, 7), ("widen", 0, 0), ("insert", 0, SMALL), ("cut", 0, 0, 9),
            ("glue", 0),
        ]:
            with self.subTest(edit):
                self.refuse(TooLarge, PLAIN, self.many, edit)

    def test_the_first_feature_that_is_not_carried(self):
        content = one_line(cell("ab"))
        for edit, features in [
            (("widen", 0, 0), ("cells",)), (("depth", 0, 1), ("nest",)), (("enter", 0, 0, 0, "x", LINK), ("link",)),
            (("enter", 0, 0, 0, "x", BOLD), ("bold",)), (("enter", 0, 0, 0, "x", SLANT), ("slant",)),
            (("enter", 0, 0, 1, "x", ALL), ("link", "bold", "slant")),
            (("mark", 0, 0, 0, 1, "link", "w"), ("link",)), (("mark", 0, 0, 0, 1, "bold", True), ("bold",)),
            (("mark", 0, 0, 0, 2, "slant", True), ("slant",)), (("insert", 0, SMALL), ALL_FEATURES),
            (("insert", 1, RICH[2:3]), ("cells", "nest")),
        ]:
            for able in feature_sets():
                form = form_carrying(able)
                missing = [feature for feature in features if feature not in able]
                with self.subTest(edit=edit, able=able):
                    if missing:
                        self.assertEqual(self.refuse(NotCarried, form, content, edit).feature, missing[0])
                    else:
                        self.assertEqual(edited(form, content, edit), expected(content, edit))

    def test_what_uses_no_feature_is_not_refused(self):
        content = one_line(cell("ab"))
        for edit in [
            ("mark", 0, 0, 0, 1, "bold", False), ("mark", 0, 0, 0, 2, "link", ""), ("depth", 0, 0),
            ("cut", 0, 0, 1), ("enter", 0, 0, 1, "*[>|", NO), ("insert", 0, ()),
        ]:
            with self.subTest(edit):
                self.assertEqual(edited(PLAIN, content, edit), expected(content, edit))


class Checked(unittest.TestCase):
    def test_contents(self):
        for content in (SMALL, RICH, EMPTY, TWELVE):
            self.assertEqual(checked(FULL, content), content)

    def test_no_content(self):
        for content in (line_of(492), line_of(41, 1), line_of(*[0] * 13), EMPTY * 201, ((7, (cell(),)),), ((0, ()),)):
            for form in (FULL, PLAIN):
                with self.assertRaises(TooLarge):
                    checked(form, content)
        with self.assertRaises(TooLarge):
            checked(PLAIN, ((7, (cell(("a", BOLD)),)),))

    def test_features(self):
        for able in feature_sets():
            missing = [feature for feature in ALL_FEATURES if feature not in able]
            with self.subTest(able):
                if not missing:
                    self.assertEqual(checked(form_carrying(able), SMALL), SMALL)
                else:
                    with self.assertRaises(NotCarried) as caught:
                        checked(form_carrying(able), SMALL)
                    self.assertEqual(caught.exception.feature, missing[0])
