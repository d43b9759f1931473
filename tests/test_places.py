"""Points 2, 14, 17 and 24: what is selected, what is put into a place, and moves within one content."""

import copy
import unittest

from clipforms.contents import is_content, keep
from clipforms.documents import edited, moved_within, put, selected
from clipforms.errors import NoPlace
from clipforms.forms import carried
from tests.samples import (
    ALL, ALL_FEATURES, BOLD, FULL, LINK, NO, PLAIN, RICH, SLANT, SMALL, cell, form_carrying, loose, one_line, tight,
)

EMPTY = one_line(cell())
NO_NEST = form_carrying(("cells", "link", "bold", "slant"))
CONTENTS = (EMPTY, one_line(cell("abcd")), SMALL, RICH, RICH + SMALL)


def size_of(pieces):
    return sum(len(text) for text, _ in pieces)


def ranges(content):
    """All ranges of characters that there are."""
    for line, (_, cells) in enumerate(content):
        for at, pieces in enumerate(cells):
            size = size_of(pieces)
            yield from (("range", line, at, start, end) for start in range(size) for end in range(start + 1, size + 1))


def all_lines(content):
    """All selections of lines that there are."""
    many = len(content)
    return [("lines", first, last) for first in range(many) for last in range(first, many)]


def places(content):
    """All places that there are."""
    for line, (_, cells) in enumerate(content):
        for at, pieces in enumerate(cells):
            yield from ((line, at, offset) for offset in range(size_of(pieces) + 1))


def no_places(content):
    """Places one beyond those that there are."""
    yield from ((-1, 0, 0), (len(content), 0, 0), (-len(content), 0, 0))
    for line, (_, cells) in enumerate(content):
        yield from ((line, -1, 0), (line, len(cells), 0))
        for at, pieces in enumerate(cells):
            yield from ((line, at, -1), (line, at, size_of(pieces) + 1))


def no_selections(content):
    """Selections of which something is not there."""
    many = len(content)
    yield from (("lines", -1, 0), ("lines", 0, many), ("lines", many, many), ("lines", 1, 0), ("lines", -1, -1))
    for line, at, offset in no_places(content):
        yield from (("range", line, at, offset, offset + 1), ("range", line, at, offset - 1, offset))
    for line, at, offset in places(content):
        yield from (("range", line, at, offset, offset), ("range", line, at, offset, offset - 1))


def put_loosely(content, place, more, is_raised):
    """A content put into a place, character by character."""
    lines, new = loose(content), loose(more)
    line, at, offset = place
    if len(new) == 1 and len(new[0][1]) == 1:
        lines[line][1][at][offset:offset] = new[0][1][0]
        return tight(lines)
    depth = lines[line][0] if is_raised else 0
    lines[line + 1:line + 1] = [[depth + other, cells] for other, cells in new]
    return tight(lines)


class Selected(unittest.TestCase):
    def test_lines(self):
        for content in CONTENTS:
            for selection in all_lines(content):
                _, first, last = selection
                self.assertEqual(selected(content, selection), content[first:last + 1])

    def test_ranges(self):
        for content in CONTENTS:
            for selection in ranges(content):
                _, line, at, start, end = selection
                chars = loose(content)[line][1][at][start:end]
                self.assertEqual(selected(content, selection), tight([[0, [chars]]]))

    def test_pieces_of_a_range(self):
        content = ((3, (cell(), cell("ab", ("cd", BOLD), ("ef", ALL)))),)
        self.assertEqual(selected(content, ("range", 0, 1, 1, 5)), one_line(cell("b", ("cd", BOLD), ("e", ALL))))
        self.assertEqual(selected(content, ("range", 0, 1, 2, 4)), one_line(cell(("cd", BOLD))))

    def test_long_ranges(self):
        content = one_line(cell("x" * 300, ("y" * 191, BOLD)))
        self.assertEqual(selected(content, ("range", 0, 0, 0, 491)), content)
        self.assertEqual(selected(content, ("lines", 0, 0)), content)

    def test_what_is_not_there(self):
        for content in CONTENTS:
            for selection in no_selections(content):
                with self.subTest(selection), self.assertRaises(NoPlace):
                    selected(content, selection)


class Put(unittest.TestCase):
    mores = (
        EMPTY, one_line(cell("xy")), one_line(cell("x", ("y", BOLD))), one_line(cell(("z", LINK))),
        ((5, (cell("xy"),)),), one_line(cell("x"), cell()), one_line(cell(), cell()), EMPTY * 2, SMALL, RICH,
        ((2, (cell("q"),)), (0, (cell(),))),
    )

    def test_everywhere(self):
        for content in CONTENTS:
            for more in self.mores:
                for place in places(content):
                    self.assertEqual(put(FULL, content, place, more), put_loosely(content, place, more, True))

    def test_without_depths(self):
        for content in CONTENTS:
            for more in self.mores:
                content, more = keep(content, carried(NO_NEST)), keep(more, carried(NO_NEST))
                for place in places(content):
                    self.assertEqual(put(NO_NEST, content, place, more), put_loosely(content, place, more, False))

    def test_no_depth_is_raised_in_a_form_without_nest(self):
        self.assertEqual(put(PLAIN, ((3, (cell("a"),)),), (0, 0, 0), EMPTY * 2), ((3, (cell("a"),)),) + EMPTY * 2)

    def test_depths_are_raised(self):
        content = ((2, (cell("a"),)), (1, (cell("b"),)))
        more = ((0, (cell("x"),)), (4, (cell("y"),)))
        self.assertEqual(
            put(FULL, content, (0, 0, 1), more), (content[0], (2, (cell("x"),)), (6, (cell("y"),)), content[1]),
        )
        self.assertEqual(put(FULL, content, (1, 0, 0), more), content + ((1, (cell("x"),)), (5, (cell("y"),))))

    def test_one_cell_comes_without_its_depth(self):
        content = ((2, (cell("ac"), cell("d"))),)
        self.assertEqual(put(FULL, content, (0, 0, 1), ((4, (cell("b"),)),)), ((2, (cell("abc"), cell("d"))),))

    def test_what_is_no_content(self):
        line = one_line(cell("x"))
        for content, place, more in [
            (line * 200, (7, 0, 0), line * 2), (line * 150, (149, 0, 1), line * 51),
            (((3, (cell(),)),), (0, 0, 0), ((4, (cell(), cell())),)),
            (one_line(cell("x" * 491)), (0, 0, 491), line), (one_line(cell("x" * 40), cell()), (0, 0, 0), line),
        ]:
            behind = put(FULL, content, place, more)
            self.assertEqual(behind, put_loosely(content, place, more, True))
            self.assertFalse(is_content(behind))

    def test_what_is_not_there(self):
        for content in CONTENTS:
            for more in (EMPTY, SMALL):
                for place in no_places(content):
                    with self.subTest(place), self.assertRaises(NoPlace):
                        put(FULL, content, place, more)

    def test_what_is_handed_in_stays(self):
        before = copy.deepcopy((RICH, SMALL))
        put(FULL, RICH, (0, 0, 1), SMALL)
        selected(RICH, ("range", 0, 0, 0, 1))
        moved_within(FULL, RICH, ("lines", 0, 1), (2, 0, 0))
        self.assertEqual((RICH, SMALL), before)


class MovedWithin(unittest.TestCase):
    def expected(self, content, selection, place):
        """The content behind a move, or None where the place is refused."""
        word, *at = selection
        line, within, offset = place
        if word == "lines":
            first, last = at
            if first <= line <= last:
                return None
            later = put_loosely(content, place, content[first:last + 1], True)
            # The lines that are put come behind the line of the place.
            first += len(later) - len(content) if line < first else 0
            return edited(FULL, later, ("delete", first, last - at[0] + first))
        other, cell_at, start, end = at
        lines = loose(content)
        chars = lines[other][1][cell_at]
        moved = chars[start:end]
        if (line, within) != (other, cell_at):
            lines[line][1][within][offset:offset] = moved
            del chars[start:end]
            return tight(lines)
        if offset in range(start + 1, end):
            return None
        rest = [char for at, char in enumerate(chars) if not start <= at < end]
        ahead = sum(1 for at in range(offset) if not start <= at < end)
        lines[line][1][within] = rest[:ahead] + moved + rest[ahead:]
        return tight(lines)

    def test_everywhere(self):
        page = ((1, (cell("ab", ("c", BOLD)), cell(("d", LINK)))), (2, (cell("a"),)), (0, (cell(),)))
        for content in (EMPTY, one_line(cell("ab", ("cd", SLANT))), SMALL, page):
            for selection in [*all_lines(content), *ranges(content)]:
                for place in places(content):
                    wanted = self.expected(content, selection, place)
                    with self.subTest(selection=selection, place=place):
                        if wanted is None:
                            with self.assertRaises(NoPlace):
                                moved_within(FULL, content, selection, place)
                        else:
                            self.assertEqual(moved_within(FULL, content, selection, place), wanted)

    def test_places_at_both_ends_of_a_range(self):
        content = one_line(cell("abcdef"))
        for offset in (2, 5):
            self.assertEqual(moved_within(FULL, content, ("range", 0, 0, 2, 5), (0, 0, offset)), content)
        for offset in (3, 4):
            with self.assertRaises(NoPlace):
                moved_within(FULL, content, ("range", 0, 0, 2, 5), (0, 0, offset))
        self.assertEqual(moved_within(FULL, content, ("range", 0, 0, 2, 5), (0, 0, 6)), one_line(cell("abfcde")))
        self.assertEqual(moved_within(FULL, content, ("range", 0, 0, 2, 5), (0, 0, 1)), one_line(cell("acdebf")))

    def test_lines_with_one_cell_and_more(self):
        content = one_line(cell("ab")) + one_line(cell("cd")) + one_line(cell("e"), cell("f"))
        self.assertEqual(moved_within(FULL, content, ("lines", 1, 1), (0, 0, 1)), one_line(cell("acdb")) + content[2:])
        self.assertEqual(
            moved_within(FULL, content, ("lines", 0, 0), (2, 1, 1)), content[1:2] + one_line(cell("e"), cell("fab")),
        )
        self.assertEqual(moved_within(FULL, content, ("lines", 2, 2), (0, 0, 1)), (content[0], content[2], content[1]))
        self.assertEqual(moved_within(FULL, content, ("lines", 0, 1), (2, 0, 0)), (content[2], content[0], content[1]))

    def test_depths_of_the_place(self):
        content = ((1, (cell("a"),)), (2, (cell("b"),)), (4, (cell("c"),)))
        self.assertEqual(
            moved_within(FULL, content, ("lines", 0, 1), (2, 0, 0)), (content[2], (5, (cell("a"),)), (6, (cell("b"),))),
        )
        self.assertEqual(
            moved_within(FULL, content, ("lines", 1, 2), (0, 0, 0)), (content[0], (3, (cell("b"),)), (5, (cell("c"),))),
        )

    def test_what_is_no_content(self):
        content = ((6, (cell("a"),)), (1, (cell("b"), cell())))
        behind = moved_within(FULL, content, ("lines", 1, 1), (0, 0, 0))
        self.assertEqual(behind, (content[0], (7, (cell("b"), cell()))))
        self.assertFalse(is_content(behind))
        content = one_line(cell("x" * 40), cell()) + one_line(cell("y"))
        self.assertEqual(moved_within(FULL, content, ("range", 1, 0, 0, 1), (0, 0, 0)),
                         one_line(cell("y" + "x" * 40), cell()) + EMPTY)

    def test_a_full_content_stays_full(self):
        content = tuple((0, (cell(str(number)), cell())) for number in range(200))
        behind = moved_within(FULL, content, ("lines", 150, 199), (9, 0, 0))
        self.assertEqual(behind, content[:10] + content[150:] + content[10:150])
        self.assertTrue(is_content(behind))

    def test_what_is_not_there(self):
        for content in CONTENTS:
            for selection in no_selections(content):
                with self.subTest(selection), self.assertRaises(NoPlace):
                    moved_within(FULL, content, selection, (0, 0, 0))
            for place in no_places(content):
                with self.subTest(place), self.assertRaises(NoPlace):
                    moved_within(FULL, content + EMPTY, ("lines", len(content), len(content)),
                                 (len(content) + 1, 0, 0) if place[0] == len(content) else place)

    def test_all_is_moved_behind_itself(self):
        for content in CONTENTS:
            for place in ((len(content), 0, 0), (-1, 0, 0), (2 * len(content), 0, 0)):
                with self.subTest(place), self.assertRaises(NoPlace):
                    moved_within(FULL, content, ("lines", 0, len(content) - 1), place)

    def test_forms_without_nest(self):
        content = one_line(cell("a")) + one_line(cell("b"), cell(("c", BOLD)))
        self.assertEqual(moved_within(NO_NEST, content, ("lines", 1, 1), (0, 0, 0)), content)
        self.assertEqual(carried(NO_NEST), tuple(feature for feature in ALL_FEATURES if feature != "nest"))
        self.assertEqual(moved_within(PLAIN, one_line(cell("a", ("b", NO))[:1]) + EMPTY, ("lines", 0, 0), (1, 0, 0)),
                         one_line(cell("a")))
