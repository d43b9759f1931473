"""The hall console: deeds and questions with their answers, lines that are neither, and the journal."""

import unittest

from clipforms.errors import (
    ClipError, Gone, InvalidCommand, NameTaken, NoDesk, NoDocument, NoEntry, NoForm, NoLink, NoMark, NoPlace, NoProgram,
    NotCarried, NotMakable, NotOffered, SyntaxProblem, TooLarge, TooMany,
)
from clipforms.hallconsole import HallConsole
from clipforms.journals import format_deed, parse_deed, replay
from tests.samples import inside
from tests.test_journals import LINES

READY = [
    "desk b", "desk a", "link b a 2",
    "begin a pad : form full cell | level > bold * escape !\nform star bold * escape !\n"
    "maker m from full to star cost 1\nmaker n from star to plain cost 1",
    "begin b pen : form star bold * escape !", "open 1 full : >a*b*|c\nd", "open 2 star : x",
]
QUESTIONS = [
    "text 1", "offered 1", "can 1", "desks", "nodes", "entries", "links", "programs", "makers", "documents", "log",
    "deed 0",
]


class Case(unittest.TestCase):
    def setUp(self):
        self.console = HallConsole()
        self.answers = [self.console.execute(line) for line in READY]

    def check(self, *rows):
        for line, answer in rows:
            with self.subTest(line):
                told = self.console.execute(line)
                self.assertIsInstance(told, str)
                self.assertEqual(told, answer)

    def refuse(self, error, *lines):
        for line in lines:
            before = inside(self.console)
            with self.subTest(line[:60]), self.assertRaises(error) as caught:
                self.console.execute(line)
            self.assertIsInstance(caught.exception, ClipError)
            self.assertEqual(inside(self.console), before)


class Answers(Case):
    def test_beginning(self):
        self.assertEqual(self.answers, ["ok", "ok", "ok", "1", "2", "1", "2"])

    def test_an_empty_hall(self):
        self.console = HallConsole()
        self.check(*[(word, "") for word in QUESTIONS[3:11]])
        self.assertEqual(self.console.journal(), [])

    def test_lists(self):
        self.check(
            ("desks", "a, b"), ("nodes", "a/full, a/plain, a/star, b/plain, b/star"), ("entries", ""),
            ("links", "a b 2"),
            ("programs", "1 a pad, 2 b pen"), ("documents", "1 1 full, 2 2 star"), ("log", ""), ("makers",
             "a/m a/full a/star 1, a/n a/star a/plain 1, a>b/plain a/plain b/plain 2, a>b/star a/star b/star 2, "
             "b>a/plain b/plain a/plain 2, b>a/star b/star a/star 2"),
            ("copy 1 lines 0 1 : all", "1"), ("copy 2 range 0 0 0 1 : a/star b/star", "2"), ("entries", "1, 2"),
            ("offered 1", "a/full cells+nest+bold, a/plain nothing, a/star bold, b/plain nothing, b/star bold"),
            ("offered 2", "a/star nothing, b/star nothing"), ("can 1", "a/full, a/plain, a/star, b/plain, b/star"),
            ("ask 1 b/plain", "ab c\nd"), ("ask 2 a/star", "x"),
            ("log", "1 a/m a/star bold, 1 a/n a/plain nothing, 1 a>b/plain b/plain nothing, 2 b>a/star a/star nothing"),
            ("text 1", ">a*b*|c\nd"), ("text 2", "x"),
        )

    def test_edits(self):
        self.check(
            ("enter 1 0 1 1 - b :  : ", "ok"), ("text 1", ">a*b*|c* : *\nd"), ("mark 1 0 1 1 4 bold no", "ok"),
            ("erase 1 0 0 0 1", "ok"), ("text 1", ">*b*|c : \nd"), ("cut 1 0 0 1", "ok"), ("glue 1 1", "ok"),
            ("text 1", ">*b*\n>|c : d"), ("depth 1 0 0", "ok"), ("widen 1 0 1", "ok"), ("narrow 1 1 0", "ok"),
            ("text 1", "*b*|\n>c : d"), ("delete 1 0 0", "ok"), ("text 1", ">c : d"), ("delete 1 0 0", "ok"),
            ("text 1", ""),
        )

    def test_what_is_made_before(self):
        self.check(
            ("copy 1 lines 0 1 : all", "1"), ("copy 1 lines 1 1 : b/plain", "2"), ("keep", "0"),
            ("end 1", "1 a/full, 1 a/plain, 1 a/star, 2 b/plain"), ("programs", "2 b pen"), ("back 0", "ok"),
            ("unlink a b", "1 b/plain, 1 b/star, 2 b/plain"), ("links", ""), ("back 0", "ok"),
            ("clear a", "1 b/plain, 1 b/star, 2 b/plain"), ("can 1", "b/plain, b/star"), ("desks", "b"),
            ("end 2", "nothing"),
            ("clear b", "nothing"), ("offered 1", ""), ("can 1", ""), ("entries", "1, 2"), ("desks", ""),
        )

    def test_where_nothing_is_made(self):
        self.check(
            ("copy 1 lines 0 1 : all", "1"), ("keep", "0"), ("crash 1", "ok"), ("can 1", ""), ("back 0", "ok"),
            ("cut a b", "ok"),
            ("can 1", "a/full, a/plain, a/star"), ("link a b 0", "ok"), ("fall a", "ok"), ("can 1", ""),
            ("offered 1", "b/plain nothing, b/star bold"), ("log", ""),
        )
        self.refuse(Gone, "ask 1 b/plain")

    def test_close_drop_and_marks(self):
        self.check(
            ("keep", "0"), ("copy 2 lines 0 0 : all", "1"), ("close 2", "ok"), ("documents", "1 1 full"),
            ("drop 1", "ok"),
            ("entries", ""), ("keep", "1"), ("back 0", "ok"), ("documents", "1 1 full, 2 2 star"), ("keep", "1"),
        )

    def test_all_other_deeds(self):
        self.check(("open 2 plain : ", "3"), ("begin b 0 : ", "3"), ("desk c", "ok"), ("link c a 1000", "ok"),
                   ("cut a c", "ok"))

    def test_what_the_hall_raises(self):
        self.check(("copy 1 lines 0 1 : a/plain", "1"), ("open 1 plain : " + "x" * 491, "3"))
        self.refuse(NoDesk, "desk a/b", "begin c pad : ", "link a c 1", "unlink c a", "cut a/b a", "clear c", "fall c")
        self.refuse(NameTaken, "desk a", "link a b 3", "begin b x : form full",
                    "begin a x : form q\nmaker m from q to plain cost 1")
        self.refuse(NoLink, "link a a 1", "unlink a a", "cut b b")
        self.refuse(NoProgram, "begin a a/b : ", "end 3", "crash 0", "open 9 x : \t")
        self.refuse(SyntaxProblem, "begin a pad : x", "open 1 plain : \t")
        self.refuse(NoForm, "open 2 full : ", "open 1 a/full : ", "copy 1 lines 0 0 : a/plain plain")
        self.refuse(NoDocument, "text 4", "close 0", "glue 9 9", "copy 9 lines 9 9 : all", "enter 4 0 0 0 - - : x")
        self.refuse(NoPlace, "glue 2 0", "erase 2 0 0 1 1", "copy 1 lines 1 0 : all")
        self.refuse(TooLarge, "depth 1 0 7", "enter 3 0 0 0 - - : x")
        self.refuse(NotCarried, "depth 2 0 1", "widen 2 0 0")
        self.refuse(NotMakable, "copy 2 lines 0 0 : a/full")
        self.refuse(NoEntry, "ask 2 a/plain", "offered 0", "can 2", "drop 2")
        self.refuse(NotOffered, "ask 1 b/plain", "ask 1 plain")
        self.refuse(NoMark, "back 0")
        self.check(("desk c", "ok"), ("desk d", "ok"))
        self.refuse(TooMany, "desk e")


class Journal(Case):
    def test_the_deeds_that_were_done(self):
        self.assertEqual(self.console.journal(), [parse_deed(line) for line in READY])
        self.check(*[(f"deed {number}", line) for number, line in enumerate(READY)])
        self.assertEqual(len(self.console.journal()), len(READY))

    def test_refused_deeds_and_questions_are_left_out(self):
        self.refuse(NameTaken, "desk a")
        self.check(("desks", "a, b"), ("desk c", "ok"), ("text 1", ">a*b*|c\nd"), ("deed 7", "desk c"))
        self.refuse(InvalidCommand, "deed 8", "desk", "deed 999999999")
        self.assertEqual(len(self.console.journal()), 8)

    def test_what_going_back_took_away_stays(self):
        self.check(("keep", "0"), ("desk c", "ok"), ("back 0", "ok"), ("desks", "a, b"), ("desk d", "ok"))
        self.check(("deed 7", "keep"), ("deed 8", "desk c"), ("deed 9", "back 0"), ("deed 10", "desk d"))
        self.refuse(InvalidCommand, "deed 11")

    def test_asking_is_a_deed(self):
        self.check(("copy 1 lines 0 1 : all", "1"), ("ask 1 b/star", "a*b* c\nd"), ("deed 8", "ask 1 b/star"))
        self.assertEqual(replay(self.console.journal()).log(), [
            (1, "a/m", "a/star", ("bold",)), (1, "a>b/star", "b/star", ("bold",)),
        ])

    def test_a_new_list(self):
        told = self.console.journal()
        told.clear()
        self.assertEqual(len(self.console.journal()), len(READY))

    def test_texts_in_lines(self):
        self.check(("open 1 plain : a\nb : c", "3"), ("deed 7", "open 1 plain : a\nb : c"), ("text 3", "a\nb : c"))


class Invalid(Case):
    def refuse(self, *lines):
        super().refuse(InvalidCommand, *lines)

    def test_words(self):
        self.refuse("", " ", "\n", ":", "Desk c", "insert 1 0", "undo 1", "redo 1", "history", "living", "mark",
                    "paste 1", "edit 1",
                    "bring 1", "supply 1", "desks ", " desks", "desks 1", "desks : ", "log : x", "nodes\n", "front 1",
                    "entry 1")

    def test_questions(self):
        for line in QUESTIONS:
            words = line.split(" ")
            self.refuse(line + " 1", line + " ", " " + line, line + " : ", line + "\n", line.upper(), words[0] + "  1")
            if len(words) == 2:
                self.refuse(words[0], *[f"{words[0]} {number}" for number in (
                    "01", "00", "x", "-1", "+1", "1000000000", "0000000001", "1_0", "a", "a/plain", "",
                )])

    def test_deeds(self):
        for line in LINES.values():
            head, parting, text = line.partition(" : ")
            words = head.split(" ")
            for at in range(len(words)):
                self.refuse(" ".join(words[:at] + words[at + 1:]) + parting + text)
            self.refuse(" ".join(words + ["1"]) + parting + text, " " + line, head + " " + parting + text)
            self.assertEqual(format_deed(parse_deed(line)), line)

    def test_what_is_no_command_is_refused_ahead_of_all_else(self):
        self.refuse("begin z Pad : ", "link z z 01", "erase 9 9 9 9 x", "copy 9 lines 9 9 : a a", "ask 99 A",
                    "enter 9 9 9 9 - - : ",
                    "end x", "back -1", "deed 99", "cut a b c", "open 9 none")
