"""Point 5: the features, dropping and using one, sets of features, keep."""

import copy
import unittest
from itertools import permutations

from clipforms.contents import drop, is_content, keep, used
from tests.samples import (
    ALL, ALL_FEATURES, ALL_MARKS, BOLD, LINK, NO, RICH, SLANT, USE_ALONE, cell, feature_sets, many_contents, one_line,
)


def expected_drop(content, feature):
    """The content without a feature, worked out character by character."""
    lines = []
    for depth, cells in content:
        spread = [[(char, marks) for text, marks in parts for char in text] for parts in cells]
        if feature == "cells":
            spread = [[pair for number, parts in enumerate(spread) for pair in [(" ", NO)] * (number > 0) + parts]]
        place = {"link": 0, "bold": 1, "slant": 2}.get(feature)
        if place is not None:
            spread = [[(char, marks[:place] + (NO[place],) + marks[place + 1:]) for char, marks in parts]
                      for parts in spread]
        lines.append((0 if feature == "nest" else depth, tuple(gathered(parts) for parts in spread)))
    return tuple(lines)


def gathered(pairs):
    """The cell of characters with their marks."""
    pieces = []
    for char, marks in pairs:
        if pieces and pieces[-1][1] == marks:
            pieces[-1] = (pieces[-1][0] + char, marks)
        else:
            pieces.append((char, marks))
    return tuple(pieces)


class DropCells(unittest.TestCase):
    def test_a_space_without_marks_between_two(self):
        content = one_line(cell(("a", BOLD)), cell(("b", BOLD)))
        self.assertEqual(drop(content, "cells"), one_line(cell(("a", BOLD), " ", ("b", BOLD))))

    def test_the_space_joins_neighbours_without_marks(self):
        self.assertEqual(drop(one_line(cell("a"), cell("b")), "cells"), one_line(cell("a b")))
        self.assertEqual(drop(one_line(cell(("a", ALL)), cell("b")), "cells"), one_line(cell(("a", ALL), " b")))
        self.assertEqual(drop(one_line(cell("a"), cell(("b", ALL))), "cells"), one_line(cell("a ", ("b", ALL))))

    def test_empty_cells(self):
        self.assertEqual(drop(one_line(cell(), cell()), "cells"), one_line(cell(" ")))
        self.assertEqual(drop(one_line(*[cell()] * 12), "cells"), one_line(cell(" " * 11)))
        self.assertEqual(drop(one_line(cell(), cell("a"), cell(), cell("b"), cell()), "cells"), one_line(cell(" a  b ")))
        self.assertEqual(
            drop(one_line(cell(), cell(("a", LINK)), cell()), "cells"), one_line(cell(" ", ("a", LINK), " ")))

    def test_lines_with_one_cell_stay(self):
        for content in (one_line(cell()), one_line(cell("a", ("b", BOLD))), ((3, (cell("a  b"),)),)):
            self.assertEqual(drop(content, "cells"), content)

    def test_each_line_by_itself_with_its_depth(self):
        content = ((2, (cell("a"), cell("b"))), (0, (cell("c"),)), (5, (cell(), cell("d"))))
        self.assertEqual(drop(content, "cells"), ((2, (cell("a b"),)), (0, (cell("c"),)), (5, (cell(" d"),))))

    def test_the_longest_line(self):
        content = one_line(*[cell("a" * 40)] * 12)
        self.assertEqual(drop(content, "cells"), one_line(cell(" ".join(["a" * 40] * 12))))
        self.assertTrue(is_content(drop(content, "cells")))


class DropOthers(unittest.TestCase):
    def test_nest(self):
        content = tuple((depth, (cell("a", ("b", ALL)), cell())) for depth in range(7))
        self.assertEqual(drop(content, "nest"), ((0, (cell("a", ("b", ALL)), cell())),) * 7)

    def test_link(self):
        content = one_line(cell(("a", ("w", True, True)), ("b", ("v", False, False))), cell(("c", LINK)))
        self.assertEqual(drop(content, "link"), one_line(cell(("a", ("", True, True)), "b"), cell("c")))

    def test_bold(self):
        content = one_line(cell(("a", ("w", True, True)), ("b", LINK)), cell(("c", BOLD)))
        self.assertEqual(drop(content, "bold"), one_line(cell(("a", ("w", False, True)), ("b", LINK)), cell("c")))

    def test_slant(self):
        content = one_line(cell(("a", ("w", True, True)), ("b", LINK)), cell(("c", SLANT)))
        self.assertEqual(drop(content, "slant"), one_line(cell(("a", ("w", True, False)), ("b", LINK)), cell("c")))

    def test_neighbours_that_become_equal(self):
        content = one_line(cell("a", ("b", BOLD), "c", ("d", SLANT), ("e", ("", True, True)), ("f", SLANT)))
        self.assertEqual(drop(content, "bold"), one_line(cell("abc", ("def", SLANT))))
        self.assertEqual(
            drop(content, "slant"), one_line(cell("a", ("b", BOLD), "cd", ("e", BOLD), "f")))
        two_links = one_line(cell(("a", ("v", False, True)), ("b", ("w", False, True)), ("c", SLANT), "d"))
        self.assertEqual(drop(two_links, "link"), one_line(cell(("abc", SLANT), "d")))

    def test_neighbours_in_two_cells_stay_apart(self):
        content = one_line(cell(("a", BOLD)), cell("b"))
        self.assertEqual(drop(content, "bold"), one_line(cell("a"), cell("b")))


class AllDrops(unittest.TestCase):
    def test_each_feature_of_all_contents(self):
        for content in many_contents():
            for feature in ALL_FEATURES:
                dropped = drop(content, feature)
                self.assertEqual(dropped, expected_drop(content, feature))
                self.assertIs(is_content(dropped), True)
                self.assertEqual(drop(dropped, feature), dropped)

    def test_every_order_of_every_set(self):
        for features in feature_sets():
            dropped = [feature for feature in ALL_FEATURES if feature not in features]
            for order in permutations(dropped):
                content = RICH
                for feature in order:
                    content = drop(content, feature)
                self.assertEqual(content, keep(RICH, features), order)

    def test_arguments_stay(self):
        before = copy.deepcopy(RICH)
        for feature in ALL_FEATURES:
            drop(RICH, feature)
            keep(RICH, (feature,))
        used(RICH)
        self.assertEqual(RICH, before)


class Keep(unittest.TestCase):
    def test_with_every_set(self):
        for content in list(USE_ALONE.values()) + [RICH, one_line(*[cell("a" * 40)] * 12)]:
            for features in feature_sets():
                expected = content
                for feature in ALL_FEATURES:
                    if feature not in features:
                        expected = expected_drop(expected, feature)
                self.assertEqual(keep(content, features), expected)

    def test_all_and_none(self):
        self.assertEqual(keep(RICH, ALL_FEATURES), RICH)
        content = ((2, (cell(("a", ALL)), cell(("b", BOLD), "c"))),)
        self.assertEqual(keep(content, ()), one_line(cell("a bc")))
        self.assertEqual(keep(content, ("nest",)), ((2, (cell("a bc"),)),))
        self.assertEqual(keep(content, ("cells", "bold")), one_line(cell(("a", BOLD)), cell(("b", BOLD), "c")))

    def test_unused_features_change_nothing(self):
        content = USE_ALONE[()]
        for features in feature_sets():
            self.assertEqual(keep(content, features), content)


class Used(unittest.TestCase):
    def test_each_alone(self):
        for features, content in USE_ALONE.items():
            self.assertEqual(used(content), features)

    def test_all(self):
        self.assertEqual(used(RICH), ALL_FEATURES)
        self.assertEqual(used(((1, (cell(("a", ALL)), cell())),)), ALL_FEATURES)

    def test_every_set_in_order(self):
        for features in feature_sets():
            self.assertEqual(used(keep(RICH, features)), features)

    def test_nothing_used(self):
        for content in (one_line(cell()), one_line(cell("*a* [w:b]")), ((0, (cell("a"),)), (0, (cell(),)))):
            self.assertEqual(used(content), ())

    def test_in_the_last_line_or_piece_alone(self):
        plain_line = (0, (cell("a"),))
        self.assertEqual(used((plain_line, (0, (cell(), cell())))), ("cells",))
        self.assertEqual(used((plain_line, (6, (cell(),)))), ("nest",))
        for marks in ALL_MARKS:
            features = tuple(feature for feature, value in zip(("link", "bold", "slant"), marks) if value)
            if features:
                self.assertEqual(used((plain_line, (0, (cell("a", ("b", marks)),)))), features)

    def test_kinds_of_values(self):
        self.assertIsInstance(used(RICH), tuple)
        self.assertIsInstance(keep(RICH, ()), tuple)
        self.assertIsInstance(drop(RICH, "cells"), tuple)
