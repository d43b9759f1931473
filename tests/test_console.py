"""The console: commands and their answers, and lines that are no command."""

import unittest

from clipforms.console import Console
from clipforms.errors import (
    ClipError, EditedSince, Gone, HistoryFull, InvalidCommand, NameTaken, NoDocument, NoEntry, NoForm, NoMaker, NoMark,
    NoPlace, NoProgram, NotCarried, NothingToUndo, NotMakable, NotOffered, SyntaxProblem, TooLarge, TooMany,
)
from tests.samples import inside

FULL = "bring 1 full | > * _ [ : ] !"
STAR = "bring 1 star none none * none none none none !"
READY = [
    "begin pad", FULL, STAR, "supply 1 a full star 2", "supply 1 b star plain 1", "open 1 full : >a*b*|_c_\n[w:d]",
    "open 1 plain : xyz",
]


class Case(unittest.TestCase):
    def setUp(self):
        self.console = Console()
        for line in READY:
            self.console.execute(line)

    def check(self, *rows):
        """Run commands; each row has a line and its answer."""
        for line, answer in rows:
            with self.subTest(line):
                told = self.console.execute(line)
                self.assertIsInstance(told, str)
                self.assertEqual(told, answer)

    def refuse(self, error, *lines):
        for line in lines:
            before = inside(self.console)
            with self.subTest(line[:60]), self.assertRaises(error) as caught:
                self.console.execute(line)
            self.assertIsInstance(caught.exception, ClipError)
            self.assertEqual(inside(self.console), before)


class Answers(Case):
    def test_beginning(self):
        self.console = Console()
        self.check(*zip(READY, ["1", "ok", "ok", "ok", "ok", "1", "2"]))

    def test_nothing_to_list(self):
        self.console = Console()
        self.check(*[(word, "") for word in ("programs", "documents", "makers", "log", "history")])

    def test_lists(self):
        self.check(
            ("begin pen", "2"), ("programs", "1 pad, 2 pen"), ("documents", "1 1 full, 2 1 plain"),
            ("supply 2 c plain star 1000", "ok"),
            ("makers", "1 a full star 2, 1 b star plain 1, 2 c plain star 1000"),
            ("copy 1 lines 0 1 : all", "1"), ("ask 1 plain", "ab c\nd"), ("copy 2 range 0 0 0 1 : plain star", "2"),
            ("log", "1 a star bold, 1 b plain nothing"), ("copyonce 2 lines 0 0 : star", "3"), ("pin 3", "ok"),
            ("pin 1", "ok"), ("history", "3 pinned once, 2, 1 pinned"), ("unpin 3", "ok"),
            ("history", "3 once, 2, 1 pinned"),
        )

    def test_edits(self):
        self.check(
            ("enter 2 0 0 0 - - :  ~", "ok"), ("text 2", " ~xyz"),
            ("enter 1 0 0 1 - - : x", "ok"), ("text 1", ">ax*b*|_c_\n[w:d]"),
            ("enter 1 1 0 1 w2 bs :  : y", "ok"), ("text 1", ">ax*b*|_c_\n[w:d]*_[w2: !: y]*_"),
            ("enter 1 1 0 0 - s : z", "ok"), ("enter 1 1 0 0 - b : q", "ok"),
            ("text 1", ">ax*b*|_c_\n*q*_z_[w:d]*_[w2: !: y]*_"),
            ("erase 1 1 0 3 7", "ok"), ("erase 1 1 0 0 2", "ok"), ("text 1", ">ax*b*|_c_\n[w:d]"),
            ("mark 1 0 0 0 2 bold yes", "ok"), ("mark 1 0 0 2 3 bold no", "ok"), ("text 1", ">*ax*b|_c_\n[w:d]"),
            ("mark 1 0 1 0 1 slant no", "ok"), ("mark 1 0 1 0 1 link k9", "ok"), ("mark 1 1 0 0 1 link -", "ok"),
            ("mark 1 1 0 0 1 slant yes", "ok"), ("text 1", ">*ax*b|[k9:c]\n_d_"),
            ("cut 1 0 0 2", "ok"), ("text 1", ">*ax*\n>b|[k9:c]\n_d_"), ("glue 1 1", "ok"),
            ("text 1", ">*ax*\n>b|[k9:c]_d_"), ("depth 1 0 6", "ok"), ("depth 1 1 0", "ok"),
            ("text 1", ">>>>>>*ax*\nb|[k9:c]_d_"), ("widen 1 1 2", "ok"), ("widen 1 1 0", "ok"),
            ("text 1", ">>>>>>*ax*\n|b|[k9:c]_d_|"), ("narrow 1 1 2", "ok"), ("narrow 1 1 0", "ok"),
            ("text 1", ">>>>>>*ax*\nb|"), ("delete 1 0 0", "ok"), ("text 1", "b|"), ("delete 1 0 0", "ok"),
            ("text 1", ""),
        )

    def test_undo_and_redo(self):
        self.check(
            ("cut 2 0 0 1", "ok"), ("undo 2", "ok"), ("text 2", "xyz"), ("redo 2", "ok"), ("text 2", "x\nyz"),
        )

    def test_copies(self):
        self.check(
            ("copy 1 lines 0 1 : star full", "1"), ("offered 1", "star bold, full cells+nest+link+bold+slant"),
            ("can 1", "star, full"), ("ask 1 full", ">a*b*|_c_\n[w:d]"), ("ask 1 star", "a*b* c\nd"),
            ("copy 1 range 0 0 0 1 : all", "2"), ("offered 2", "full nothing, plain nothing, star nothing"),
            ("copyonce 2 lines 0 0 : plain", "3"), ("ask 3 plain", "xyz"), ("front 1", "ok"),
            ("history", "1, 3 once, 2"), ("drop 2", "ok"), ("history", "1, 3 once"),
        )

    def test_a_form_with_the_name_all(self):
        self.check(
            ("bring 1 all none none * none none none none !", "ok"), ("supply 1 z full all 0", "ok"),
            ("copy 1 lines 1 1 : all star", "1"), ("offered 1", "all nothing, star nothing"),
            ("copy 1 lines 1 1 : all", "2"),
            ("offered 2", "all nothing, full link, plain nothing, star nothing"),
            ("paste 1 2 0 0 0 : all", "all"),
        )
        self.refuse(NotOffered, "paste 1 2 0 0 0 : full")

    def test_ends(self):
        self.check(
            ("copy 1 lines 0 1 : all", "1"), ("copy 1 lines 0 0 : star", "2"), ("begin pen", "2"), ("end 2", "nothing"),
            ("end 1", "1 full, 1 plain, 1 star, 2 star"), ("can 1", "full, plain, star"), ("programs", ""),
            ("documents", ""), ("makers", ""),
            ("log", "1 a star bold, 1 b plain nothing, 2 a star bold"),
        )

    def test_crashes(self):
        self.check(
            ("copy 1 lines 0 1 : all", "1"), ("ask 1 star", "a*b* c\nd"), ("crash 1", "ok"), ("can 1", "star"),
            ("log", "1 a star bold"),
        )
        self.refuse(Gone, "ask 1 full", "ask 1 plain")

    def test_nothing_can_be_asked(self):
        self.check(("copy 1 lines 0 0 : full", "1"), ("crash 1", "ok"), ("can 1", ""),
                   ("offered 1", "full cells+nest+bold+slant"))

    def test_pastes(self):
        self.check(
            ("copyonce 1 lines 0 1 : all", "1"), ("paste 1 2 0 0 1 : plain star none", "plain"),
            ("text 2", "xyz\nab c\nd"), ("history", ""), ("copy 1 range 0 0 1 2 : all", "2"),
            ("paste 2 1 1 0 0 : plain star full", "star"), ("text 1", ">a*b*|_c_\n*b*[w:d]"),
        )

    def test_drags(self):
        self.check(
            ("drag 1 range 0 0 0 2 to 2 0 0 3", "ok"), ("text 2", "xyzab"), ("text 1", ">a*b*|_c_\n[w:d]"),
            ("move 2 range 0 0 0 3 to 1 1 0 0", "ok"), ("text 2", "ab"), ("text 1", ">a*b*|_c_\nxyz[w:d]"),
            ("undo 1", "ok"), ("text 2", "xyzab"), ("move 1 lines 1 1 to 1 0 1 1", "ok"), ("text 1", ">a*b*|_c_[w:d]"),
            ("drag 2 lines 0 0 to 2 0 0 0", "ok"), ("text 2", "xyzabxyzab"),
        )

    def test_close_and_open(self):
        self.check(
            ("close 1", "ok"), ("documents", "2 1 plain"), ("open 1 star : ", "3"), ("text 3", ""),
            ("open 1 plain :  : ", "4"), ("text 4", " : "), ("open 1 plain : a\nb\n", "5"), ("text 5", "a\nb\n"),
            ("open 1 plain :  ", "6"), ("text 6", " "),
            ("documents", "2 1 plain, 3 1 star, 4 1 plain, 5 1 plain, 6 1 plain"),
        )

    def test_marks(self):
        self.check(
            ("keep", "0"), ("keep", "1"), ("begin pen", "2"), ("close 1", "ok"), ("back 1", "ok"),
            ("programs", "1 pad"),
            ("documents", "1 1 full, 2 1 plain"), ("keep", "2"), ("back 0", "ok"), ("keep", "1"),
        )
        self.refuse(NoMark, "back 2", "back 999999999")

    def test_signs(self):
        self.check(
            ("bring 1 f none none none none { } : ~", "ok"), ("open 1 f : {w}a:", "3"), ("text 3", "{w}a:"),
            ("bring 1 g : none none none none none none ;", "ok"), ("open 1 g : a:b", "4"), ("text 4", "a:b"),
            ("widen 4 0 2", "ok"), ("text 4", "a:b:"),
        )


class DeskErrors(Case):
    """What the desk raises for lines that are commands."""

    def test_what_is_not_there(self):
        self.refuse(NoProgram, "end 2", "crash 0", "bring 2 none none none none none none none none none",
                    "supply 999999999 a b c 5", "open 2 none : *")
        self.refuse(NoDocument, "close 3", "text 0", "undo 999999999", "redo 3", "enter 3 0 0 0 - - : x",
                    "erase 3 9 9 9 9", "cut 3 9 9 9", "glue 3 9", "depth 3 9 9", "widen 3 9 9", "narrow 3 9 9",
                    "delete 3 9 9", "mark 3 9 9 9 9 link -", "copy 3 lines 9 9 : none", "copyonce 3 lines 9 9 : all",
                    "drag 3 lines 0 0 to 1 0 0 0", "move 1 lines 0 0 to 3 0 0 0")
        self.refuse(NoEntry, "ask 1 plain", "offered 1", "can 0", "front 2", "pin 2", "unpin 2", "drop 2",
                    "paste 1 1 0 0 0 : plain")
        self.refuse(NoMark, "back 0")

    def test_names(self):
        self.refuse(NoProgram, "begin Pad", "begin a-b", "begin abcdefghijklm", "begin a\nb", "begin :", "begin a\tb")
        self.refuse(NoForm, "bring 1 Star none none * none none none none !",
                    "bring 1 s none none ** none none none none !",
                    "bring 1 s none none a none none none none !", "bring 1 s none none * none none none none none",
                    "bring 1 s none none * none : none none !", "bring 1 s * none * none none none none !",
                    "bring 1 s - - * - - - - !", "open 1 dot : *", "open 1 Full : *", "copy 1 lines 0 0 : full dot",
                    "copy 1 lines 0 0 : a : b", "copy 1 lines 0 0 : full\nstar")
        self.refuse(NameTaken, "bring 1 star none none none * none none none !", "supply 1 a star plain 1")
        self.refuse(NoMaker, "supply 1 A star plain 1", "supply 1 c star star 1", "supply 1 c dot plain 1",
                    "supply 1 c star dot 1", "supply 1 c star plain 1001", "supply 1 c star plain 999999999")

    def test_the_rest(self):
        self.check(
            ("copy 1 lines 0 1 : star", "1"), ("open 1 plain : " + "x" * 491, "3"), ("copy 2 lines 0 0 : plain", "2"),
        )
        self.refuse(SyntaxProblem, "open 1 star : a*", "open 1 plain : \t", "open 1 plain : " + "x" * 492)
        self.refuse(NoPlace, "cut 2 0 0 4", "erase 2 0 0 1 1", "erase 2 0 0 2 1", "mark 2 0 0 0 0 bold yes",
                    "delete 1 1 0", "copy 2 lines 1 0 : none", "copy 2 range 0 0 2 2 : all", "narrow 2 0 0",
                    "paste 1 2 0 0 4 : star", "drag 2 lines 0 0 to 2 0 0 4", "move 2 range 0 0 0 3 to 2 0 0 2")
        self.refuse(TooLarge, "enter 3 0 0 0 - - : x", "depth 2 0 7", "depth 1 0 9", "paste 2 3 0 0 0 : plain",
                    "drag 2 lines 0 0 to 3 0 0 0")
        self.refuse(NotCarried, "enter 2 0 0 0 - b : x", "widen 2 0 0", "depth 2 0 1", "mark 2 0 0 0 1 link w")
        self.refuse(NotMakable, "copy 2 lines 0 0 : star")
        self.refuse(NotOffered, "ask 1 full", "ask 1 none", "ask 1 :", "paste 1 2 0 0 0 : full none")
        self.refuse(NothingToUndo, "undo 1", "redo 1")
        self.check(("move 1 range 0 0 0 1 to 2 0 0 0", "ok"), ("close 1", "ok"))
        self.refuse(EditedSince, "undo 2")

    def test_limits(self):
        for number in range(2, 13):
            self.check((f"begin p{number}", str(number)))
        self.refuse(TooMany, "begin pad")
        for number in range(1, 21):
            self.check(("copy 1 lines 0 0 : full", str(number)), (f"pin {number}", "ok"))
        self.refuse(HistoryFull, "copy 1 lines 0 0 : full", "copyonce 1 lines 0 0 : all")


# Commands as they must be, with arguments that are there.
COMMANDS = [
    "begin pad", "end 1", "crash 1", "close 1", "undo 1", "redo 1", "front 1", "pin 1", "unpin 1", "drop 1", "back 0",
    "bring 1 s none none * none none none none !", "supply 1 c star plain 1", "open 1 star : a", "text 1", "ask 1 star",
    "enter 1 0 0 0 - - : x", "erase 1 0 0 0 1", "cut 1 0 0 0", "glue 1 0", "depth 1 0 1", "widen 1 0 0",
    "narrow 1 0 0", "delete 1 0 0", "mark 1 0 0 0 1 link w", "mark 1 0 0 0 1 bold yes", "mark 1 0 0 0 1 slant no",
    "copy 1 lines 0 0 : all", "copy 1 range 0 0 0 1 : star plain", "copyonce 1 lines 0 0 : star", "offered 1", "can 1",
    "paste 1 1 0 0 0 : star", "drag 1 lines 0 0 to 2 0 0 0", "move 1 range 0 0 0 1 to 2 0 0 0", "programs", "documents",
    "makers", "log", "history", "keep",
]


class Invalid(Case):
    def setUp(self):
        super().setUp()
        self.console.execute("copy 1 lines 0 1 : all")
        self.console.execute("enter 1 0 0 0 - - : q")
        self.console.execute("keep")

    def refuse(self, *lines):
        super().refuse(InvalidCommand, *lines)

    def test_they_are_commands(self):
        for line in COMMANDS:
            with self.subTest(line):
                self.setUp()
                try:
                    self.console.execute(line)
                except NothingToUndo:
                    self.assertEqual(line, "redo 1")

    def test_words(self):
        self.refuse("", " ", "  ", ":", " : ", "\n", "\t", "Begin pad", "begin\tpad", "begin\npad", "begins pad",
                    "insert 1 0",
                    "insert 1 0 : x", "quit", "0", "1", "mark", "to", "all", "none", "keep\n", "log\t", "copytwice 1",
                    " begin pad", " log")

    def test_a_part_left_out_put_in_or_twice(self):
        for line in COMMANDS:
            head, parting, text = line.partition(" : ")
            words = head.split(" ")
            for at in range(len(words)):
                left = " ".join(words[:at] + words[at + 1:]) + parting + text
                self.refuse(left)
            for at in range(1, len(words) + 1):
                self.refuse(" ".join(words[:at] + ["1"] + words[at:]) + parting + text)
                self.refuse(" ".join(words[:at] + [""] + words[at:]) + parting + text)
                self.refuse(" ".join(words[:at] + words[at - 1:]) + parting + text)

    def test_spaces(self):
        for line in COMMANDS:
            head, parting, text = line.partition(" : ")
            self.refuse(" " + line, head + " " + parting + text)
            if parting == "":
                self.refuse(line + " ", line + " : ", line + " : x", line + " 1 : x")
            else:
                self.refuse(head, head + " :", head + ": " + text, head + " :" + text, head + "\n: " + text)

    def test_numbers(self):
        for line in COMMANDS:
            head, parting, text = line.partition(" : ")
            words = head.split(" ")
            for at, word in enumerate(words):
                if word.isdigit():
                    for other in ("00", "01", "1x", "x", "-1", "+1", "1.0", "1_0", "1\n", "\t1", "1000000000",
                                  "0000000001", "9999999999", "-", "one"):
                        self.refuse(" ".join(words[:at] + [other] + words[at + 1:]) + parting + text)

    def test_nine_digits(self):
        for line, error in [
            ("text 123456789", NoDocument), ("glue 1 999999999", NoPlace), ("end 100000000", NoProgram),
            ("cut 1 0 0 123456789", NoPlace), ("supply 1 c star plain 123456789", NoMaker),
            ("paste 1 1 0 0 999999999 : star", NoPlace), ("back 999999999", NoMark), ("depth 1 0 999999999", TooLarge),
        ]:
            Case.refuse(self, error, line)

    def test_edits(self):
        self.refuse("enter 1 0 0 0 - - : ", "enter 1 0 0 0 - - : a\nb", "enter 1 0 0 0 - - : \t",
                    "enter 1 0 0 0 - - : \n",
                    "enter 1 0 0 0 - sb : x", "enter 1 0 0 0 - B : x", "enter 1 0 0 0 - bb : x", "enter 1 0 0 0 - : x",
                    "enter 1 0 0 0 W - : x", "enter 1 0 0 0 w-1 - : x", "enter 1 0 0 0 abcdefghijklm - : x",
                    "enter 1 0 0 0 -- - : x", "enter 1 0 0 0 - - x", "enter 1 0 0 0 - - :x")
        self.refuse("mark 1 0 0 0 1 link W", "mark 1 0 0 0 1 link", "mark 1 0 0 0 1 link abcdefghijklm",
                    "mark 1 0 0 0 1 bold -",
                    "mark 1 0 0 0 1 bold True", "mark 1 0 0 0 1 slant Yes", "mark 1 0 0 0 1 slant w",
                    "mark 1 0 0 0 1 cells yes",
                    "mark 1 0 0 0 1 nest no", "mark 1 0 0 0 1 Link w", "mark 1 0 0 0 1 bold yes no")

    def test_copies_pastes_and_drags(self):
        self.refuse("copy 1 lines 0 0 : ", "copy 1 lines 0 0 : star star", "copy 1 lines 0 0 : star  plain",
                    "copy 1 lines 0 0 :  star", "copy 1 lines 0 0 : star ", "copy 1 lines 0 0 : all all",
                    "copy 1 line 0 0 : all", "copy 1 range 0 0 : all", "copy 1 lines 0 0 0 1 : all",
                    "copy 1 Lines 0 0 : all",
                    "copy 1 all : all", "copyonce 1 lines 0 0 : ", "copyonce 1 lines 0 0 : plain star plain")
        self.refuse("paste 1 1 0 0 0 : ", "paste 1 1 0 0 0 : star star", "paste 1 1 0 0 0 :  ", "paste 1 1 0 0 : star",
                    "paste 1 1 0 0 0 star")
        self.refuse("drag 1 lines 0 0 2 0 0 0", "drag 1 lines 0 0 To 2 0 0 0", "drag 1 lines 0 0 : 2 0 0 0",
                    "move 1 lines 0 0 to to 2 0 0 0", "move 1 range 0 0 0 to 2 0 0 0", "move 1 to 2 0 0 0",
                    "drag 1 lines 0 0 to 2 0 0 0 : x")

    def test_signs(self):
        self.refuse("bring 1 s none none * none none none none", "bring 1 s none none * none none none none ! !",
                    "bring 1 s none none  none none none none !", "bring x s none none * none none none none !",
                    "bring 1 s none none * none none none none ! : x", "bring s none none * none none none none !")

    def test_what_is_no_command_is_refused_ahead_of_all_else(self):
        self.refuse("erase 99 0 0 0 x", "open 99 star", "end 99 99", "ask 99", "back 99 0",
                    "paste 99 99 99 99 99 : a a",
                    "enter 99 0 0 0 - - : ", "drag 99 lines 0 0 to 99 0 0", "text x", "begin Pad pad")
