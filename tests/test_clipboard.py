"""Points 2 and 23: the history, what is pinned, and what a copy drops."""

import unittest

from clipforms.desk import Desk
from clipforms.errors import HistoryFull, NoEntry, NoForm, NoPlace, NotMakable, TooLarge
from tests.samples import inside


class Case(unittest.TestCase):
    def setUp(self):
        self.desk = Desk()
        self.program = self.desk.begin("pad")
        self.document = self.desk.open_document(self.program, "plain", "abcdefghijklmnopqrstuvwxyz")

    def copy(self, is_once=False, at=0):
        return self.desk.copy(self.document, ("range", 0, 0, at, at + 1), None, is_once)

    def numbers(self):
        return [entry for entry, _, _ in self.desk.history()]

    def refuse(self, error, action, *arguments):
        before = inside(self.desk)
        with self.assertRaises(error):
            action(*arguments)
        self.assertEqual(inside(self.desk), before)


class History(Case):
    def test_the_newest_first(self):
        for number, is_once in enumerate((False, True, False), 1):
            self.assertEqual(self.copy(is_once), number)
        self.assertEqual(self.desk.history(), [(3, False, False), (2, False, True), (1, False, False)])

    def test_front(self):
        for _ in range(4):
            self.copy()
        for entry, order in ((2, [2, 4, 3, 1]), (2, [2, 4, 3, 1]), (1, [1, 2, 4, 3]), (4, [4, 1, 2, 3])):
            self.assertIsNone(self.desk.front(entry))
            self.assertEqual(self.numbers(), order)
        self.assertEqual(self.copy(), 5)
        self.assertEqual(self.numbers(), [5, 4, 1, 2, 3])

    def test_pin_and_unpin(self):
        for _ in range(3):
            self.copy()
        self.assertIsNone(self.desk.pin(2))
        self.assertEqual(self.desk.history(), [(3, False, False), (2, True, False), (1, False, False)])
        self.desk.pin(2)
        self.assertEqual(self.desk.history(), [(3, False, False), (2, True, False), (1, False, False)])
        self.assertIsNone(self.desk.unpin(2))
        self.desk.unpin(1)
        self.assertEqual(self.desk.history(), [(3, False, False), (2, False, False), (1, False, False)])

    def test_what_is_asked_stays_pinned_and_where_it_is(self):
        self.copy(True)
        self.copy()
        self.desk.pin(1)
        self.desk.ask(1, "plain")
        self.desk.crash(self.program)
        self.assertEqual(self.desk.history(), [(2, False, False), (1, True, True)])

    def test_drop(self):
        for _ in range(3):
            self.copy()
        self.desk.pin(1)
        self.assertIsNone(self.desk.drop(2))
        self.assertEqual(self.numbers(), [3, 1])
        self.desk.drop(1)
        self.assertEqual(self.numbers(), [3])
        for action in (self.desk.drop, self.desk.front, self.desk.pin, self.desk.unpin, self.desk.offered):
            self.refuse(NoEntry, action, 2)
        self.desk.drop(3)
        self.assertEqual(self.desk.history(), [])
        self.assertEqual(self.copy(), 4)


class Full(Case):
    def setUp(self):
        super().setUp()
        for at in range(20):
            self.copy(False, at)

    def test_the_last_one_is_dropped(self):
        self.assertEqual(self.copy(), 21)
        self.assertEqual(self.numbers(), [21] + list(range(20, 1, -1)))
        self.refuse(NoEntry, self.desk.ask, 1, "plain")
        self.assertEqual(self.desk.ask(2, "plain"), "b")

    def test_the_last_one_that_is_not_pinned_is_dropped(self):
        for entry in (1, 2, 4):
            self.desk.pin(entry)
        for number, dropped in ((21, 3), (22, 5), (23, 6)):
            self.assertEqual(self.copy(), number)
            self.refuse(NoEntry, self.desk.offered, dropped)
        self.assertEqual(self.numbers(), [23, 22, 21] + list(range(20, 6, -1)) + [4, 2, 1])

    def test_the_last_one_by_its_place(self):
        self.desk.front(1)
        self.copy()
        self.assertEqual(self.numbers(), [21, 1] + list(range(20, 2, -1)))

    def test_all_are_pinned(self):
        for entry in range(1, 21):
            self.desk.pin(entry)
        self.refuse(HistoryFull, self.copy)
        self.refuse(NoPlace, self.copy, False, 26)
        self.refuse(NoForm, self.desk.copy, self.document, ("lines", 0, 0), ("none",), False)
        self.desk.bring(self.program, ("star", "", "", "*", "", "", "", "", "!"))
        self.refuse(NotMakable, self.desk.copy, self.document, ("lines", 0, 0), ("star",), False)
        self.desk.unpin(20)
        self.assertEqual(self.copy(), 21)
        self.assertEqual(self.numbers(), [21] + list(range(19, 0, -1)))
        self.desk.pin(21)
        self.refuse(HistoryFull, self.copy)
        self.desk.drop(7)
        self.assertEqual(self.copy(), 22)

    def test_numbers_never_come_again(self):
        for entry in range(1, 21):
            self.desk.drop(entry)
        self.assertEqual(self.copy(), 21)

    def test_nothing_is_dropped_while_there_is_room(self):
        self.desk.drop(13)
        self.copy()
        self.assertEqual(self.numbers(), [21] + [number for number in range(20, 0, -1) if number != 13])

    def test_what_was_dropped_is_not_made_before_an_end(self):
        self.copy()
        told = self.desk.end(self.program)
        self.assertEqual([entry for entry, _, _ in told], list(range(2, 22)))


class Once(Case):
    def test_dropped_behind_its_first_paste(self):
        entry = self.copy(True, 3)
        other = self.copy()
        self.assertEqual(self.desk.paste(entry, ["plain"], self.document, (0, 0, 0)), "plain")
        self.assertEqual(self.desk.text(self.document), "dabcdefghijklmnopqrstuvwxyz")
        self.assertEqual(self.numbers(), [other])
        self.refuse(NoEntry, self.desk.paste, entry, ["plain"], self.document, (0, 0, 0))

    def test_pinned_or_in_the_front_as_well(self):
        entry = self.copy(True)
        self.copy()
        self.desk.front(entry)
        self.desk.pin(entry)
        self.desk.paste(entry, ["plain"], self.document, (0, 0, 0))
        self.assertEqual(self.numbers(), [2])

    def test_not_behind_a_refused_paste_or_an_asking(self):
        long = self.desk.open_document(self.program, "plain", "x" * 491)
        entry = self.copy(True)
        self.desk.ask(entry, "plain")
        self.refuse(NoPlace, self.desk.paste, entry, ["plain"], self.document, (0, 0, 27))
        self.refuse(TooLarge, self.desk.paste, entry, ["plain"], long, (0, 0, 0))
        self.assertEqual(self.desk.history(), [(entry, False, True)])

    def test_behind_a_paste_that_changes_nothing(self):
        empty = self.desk.open_document(self.program, "plain", "")
        entry = self.desk.copy(empty, ("lines", 0, 0), None, True)
        self.desk.paste(entry, ["plain"], self.document, (0, 0, 0))
        self.assertEqual(self.desk.history(), [])

    def test_others_stay(self):
        entry = self.copy(False)
        for _ in range(3):
            self.desk.paste(entry, ["plain"], self.document, (0, 0, 0))
        self.assertEqual(self.numbers(), [entry])
