"""Points 2, 34 and 35: deeds and their lines, and halls that are made again from journals."""

import copy
import random
import unittest

from clipforms.errors import (
    ClipError, InvalidCommand, NameTaken, NoDesk, NoDocument, NoEntry, NoForm, NoLink, NoMark, NoPlace, NoProgram,
    NotMakable, NotOffered, SyntaxProblem, TooLarge, TooMany,
)
from clipforms.hall import Hall
from clipforms.journals import do, first_wrong, format_deed, is_deed, parse_deed, replay, shortened
from tests.samples import ALL, BOLD, LINK, NO, SLANT, all_changes, inside, nested, objects_of_all_kinds
from tests.test_hall_deeds import told
from tests.test_hall_runs import Account, Chooser

LONG = "abcdefghijklmnopqrstuvwxyz0123456789/abc"
MOST = 999999999
# Deeds of all kinds, and their lines.
LINES = {
    ("desk", "a"): "desk a", ("desk", LONG): "desk " + LONG, ("desk", "/"): "desk /",
    ("link", "a", "b", 0): "link a b 0", ("link", LONG, "a/b", MOST): f"link {LONG} a/b {MOST}",
    ("begin", "a", "pad", ""): "begin a pad : ", ("begin", "0", LONG, "form x\n : "): f"begin 0 {LONG} : form x\n : ",
    ("open", 0, "star", "a\nb\t"): "open 0 star : a\nb\t", ("open", MOST, "a/b", ""): f"open {MOST} a/b : ",
    ("open", 1, "plain", " : "): "open 1 plain :  : ",
    ("edit", 1, ("enter", 0, 2, 13, "x", NO)): "enter 1 0 2 13 - - : x",
    ("edit", MOST, ("enter", MOST, MOST, MOST, " : ~", ALL)): f"enter {MOST} {MOST} {MOST} {MOST} w1 bs :  : ~",
    ("edit", 0, ("enter", 0, 0, 0, "ab", BOLD)): "enter 0 0 0 0 - b : ab",
    ("edit", 0, ("enter", 0, 0, 0, "ab", SLANT)): "enter 0 0 0 0 - s : ab",
    ("edit", 0, ("enter", 0, 0, 0, "ab", LINK)): "enter 0 0 0 0 w1 - : ab",
    ("edit", 3, ("erase", 0, 1, 2, 3)): "erase 3 0 1 2 3",
    ("edit", 3, ("erase", MOST, 0, 0, MOST)): f"erase 3 {MOST} 0 0 {MOST}",
    ("edit", 3, ("mark", 0, 1, 2, 3, "bold", True)): "mark 3 0 1 2 3 bold yes",
    ("edit", 3, ("mark", 0, 1, 2, 3, "slant", False)): "mark 3 0 1 2 3 slant no",
    ("edit", 3, ("mark", 0, 1, 2, 3, "link", "")): "mark 3 0 1 2 3 link -",
    ("edit", 3, ("mark", 0, 1, 2, MOST, "link", "abcdefghijkl")): f"mark 3 0 1 2 {MOST} link abcdefghijkl",
    ("edit", 3, ("cut", 0, 1, 2)): "cut 3 0 1 2", ("edit", 3, ("glue", MOST)): f"glue 3 {MOST}",
    ("edit", 3, ("depth", 0, 10)): "depth 3 0 10", ("edit", 3, ("widen", 0, 11)): "widen 3 0 11",
    ("edit", 3, ("narrow", 0, 0)): "narrow 3 0 0", ("edit", 3, ("delete", 5, 4)): "delete 3 5 4",
    ("copy", 1, ("lines", 0, 3), None): "copy 1 lines 0 3 : all",
    ("copy", 1, ("range", 0, 1, 2, 3), ("a/plain",)): "copy 1 range 0 1 2 3 : a/plain",
    ("copy", 0, ("lines", MOST, 0), ("all", "b/star", LONG)): f"copy 0 lines {MOST} 0 : all b/star {LONG}",
    ("ask", 1, "a/plain"): "ask 1 a/plain", ("ask", 0, "x"): "ask 0 x", ("close", 1): "close 1", ("drop", 0): "drop 0",
    ("end", MOST): f"end {MOST}", ("crash", 12): "crash 12", ("back", 0): "back 0", ("unlink", "a", "b"): "unlink a b",
    ("cut", "a", "b"): "cut a b", ("cut", "1", "2"): "cut 1 2", ("clear", "a"): "clear a", ("fall", "a"): "fall a",
    ("keep",): "keep",
}
TEXTS = (("begin", 3), ("open", 3))


def is_expected(thing):
    """Whether an object is a deed, worked out from the table."""
    if not isinstance(thing, tuple) or not thing or not isinstance(thing[0], str):
        return False
    shapes = {
        "desk": "n", "link": "nnd", "begin": "nnt", "open": "dnt", "ask": "dn", "close": "d", "drop": "d", "end": "d",
        "crash": "d", "back": "d", "unlink": "nn", "cut": "nn", "clear": "n", "fall": "n", "keep": "", "copy": "dso",
        "edit": "de",
    }
    shape = shapes.get(thing[0])
    return shape is not None and len(shape) == len(thing) - 1 and all(map(is_part, shape, thing[1:]))


def is_part(kind, part):
    if kind == "d":
        return type(part) is int and 0 <= part < 10 ** 9
    if kind == "n":
        return type(part) is str and 0 < len(part) < 41 and set(part) <= set("abcdefghijklmnopqrstuvwxyz0123456789/")
    if kind == "t":
        return type(part) is str
    if kind == "o":
        if type(part) is not tuple or part in ((), ("all",)):
            return part is None
        return all(is_part("n", one) for one in part) and len(set(part)) == len(part)
    if not isinstance(part, tuple) or not part or not isinstance(part[0], str):
        return False
    many = {"lines": 2, "range": 4} if kind == "s" else {
        "enter": 3, "mark": 4, "erase": 4, "cut": 3, "glue": 1, "depth": 2, "widen": 2, "narrow": 2, "delete": 2,
    }
    count = many.get(part[0], -1)
    if count < 0 or len(part) <= count or not all(is_part("d", one) for one in part[1:count + 1]):
        return False
    rest = part[count + 1:]
    if part[0] == "enter":
        return len(rest) == 2 and are_characters(rest[0]) and are_marks(rest[1])
    if part[0] == "mark" and len(rest) == 2:
        return are_marks((rest[1], True, True)) if rest[0] == "link" else (
            rest[0] in ("bold", "slant") and type(rest[1]) is bool)
    return part[0] != "mark" and rest == ()


def are_characters(thing):
    return type(thing) is str and thing != "" and all(32 <= ord(char) <= 126 for char in thing)


def are_marks(thing):
    return (type(thing) is tuple and len(thing) == 3 and type(thing[1]) is bool and type(thing[2]) is bool
            and (thing[0] == "" or is_part("n", thing[0]) and "/" not in thing[0] and len(thing[0]) <= 12))


class Deeds(unittest.TestCase):
    def test_all_kinds(self):
        for deed, line in LINES.items():
            with self.subTest(line[:50]):
                self.assertIs(is_deed(deed), True)
                self.assertEqual(format_deed(deed), line)
                self.assertEqual(parse_deed(line), deed)
                self.assertTrue(is_expected(deed))

    def test_other_objects(self):
        for thing in objects_of_all_kinds() + [
            ("keep", 1), ("keep", ()), (("keep",),), ["keep"], "keep", ("Keep",), ("insert", 1, 0), ("text", 1),
            ("edit", 1),
            ("edit", 1, ()), ("edit", 1, ("insert", 0, ())), ("edit", 1, ("insert", 0, ((0, ((),)),))), ("mark", 1),
            ("edit", 1, ("keep",)), ("edit", ("glue", 0)), ("edit", 1, "glue"), ("edit", 1, ["glue", 0]), ("undo", 1),
            ("copy", 1, ("lines", 0, 0), ()), ("copy", 1, ("lines", 0, 0), ("all",)), ("copy", 1, ("lines", 0, 0)),
            ("copy", 1, ("lines", 0, 0), ("a", "a")), ("copy", 1, ("lines", 0, 0), ["a"]),
            ("copy", 1, ("lines", 0, 0), "a"),
            ("copy", 1, ("line", 0, 0), None), ("copy", 1, ["lines", 0, 0], None),
            ("copy", 1, ("range", 0, 0, 0), None),
            ("copy", 1, (["lines"], 0, 0), None), ("copy", 1, ("lines", 0, 0), (["a"],)), ("copy", 1, None, None),
            ("edit", 1, (["glue"], 0)), ("edit", 1, ({}, 0)), ({}, 1), (None,), (1, 2), ("edit", 1, ("cut", "a", "b")),
            ("desk", nested(29, lambda part: (part,))), ("ask", 1, None), ("begin", "a", "pad", None),
        ]:
            with self.subTest(repr(thing)[:50]):
                self.assertIs(is_deed(thing), False)

    def test_one_thing_changed(self):
        others = [
            None, True, 0, -1, 1000000000, MOST, "", "a", "A", "a b", "a" * 41, (), ("a",), [], {}, "all", ("all",),
        ]
        found = [0, 0]
        for deed in LINES:
            for change in all_changes(deed, others):
                wanted = bool(is_expected(change))
                found[wanted] += 1
                self.assertIs(is_deed(change), wanted, change)
                if wanted:
                    self.assertEqual(parse_deed(format_deed(change)), change)
        self.assertGreater(found[0], 5000)
        self.assertGreater(found[1], 500)

    def test_bounds(self):
        for thing, wanted in [
            (("close", 0), True), (("close", MOST), True), (("close", MOST + 1), False), (("close", -1), False),
            (("close", True), False), (("link", "a", "b", MOST), True), (("link", "a", "b", False), False),
            (("desk", "a" * 40), True), (("desk", "a" * 41), False), (("desk", ""), False), (("desk", "a-b"), False),
            (("desk", "a\n"), False), (("begin", "a", "b", "\t\n"), True), (("open", 1, "a", "x" * 200000), True),
            (("edit", 1, ("enter", 0, 0, 0, "", NO)), False), (("edit", 1, ("enter", 0, 0, 0, "a\nb", NO)), False),
            (("edit", 1, ("enter", 0, 0, 0, "\t", NO)), False), (("edit", 1, ("enter", 0, 0, 0, " ~", NO)), True),
            (("edit", 1, ("enter", 0, 0, 0, "x", ("a" * 13, True, True))), False),
            (("edit", 1, ("enter", 0, 0, 0, "x", ("a/b", True, True))), False),
            (("edit", 1, ("enter", 0, 0, 0, "x", ("", 1, True))), False),
            (("edit", 1, ("mark", 0, 0, 0, 1, "link", "a" * 12)), True),
            (("edit", 1, ("mark", 0, 0, 0, 1, "link", "a" * 13)), False),
            (("edit", 1, ("mark", 0, 0, 0, 1, "link", True)), False),
            (("edit", 1, ("mark", 0, 0, 0, 1, "bold", 1)), False),
            (("edit", 1, ("mark", 0, 0, 0, 1, "bold", "yes")), False),
            (("edit", 1, ("mark", 0, 0, 0, 1, "cells", True)), False),
        ]:
            with self.subTest(repr(thing)[:60]):
                self.assertIs(is_deed(thing), wanted)


class Lines(unittest.TestCase):
    def refuse(self, *lines):
        for line in lines:
            with self.subTest(line[:60]), self.assertRaises(InvalidCommand):
                parse_deed(line)

    def test_the_two_kinds_of_cut(self):
        self.assertEqual(parse_deed("cut 1 2"), ("cut", "1", "2"))
        self.assertEqual(parse_deed("cut 1 2 3 4"), ("edit", 1, ("cut", 2, 3, 4)))
        self.refuse("cut", "cut a", "cut 1 2 3", "cut a b c d", "cut 1 2 3 4 5", "cut  1 2", "cut 1 2 3 ", "cut a B")

    def test_words(self):
        self.refuse("", " ", ":", "edit 1 glue 0", "edit", "insert 1 0", "undo 1", "text 1", "offered 1", "desks",
                    "Keep",
                    "keep ", " keep", "keep 1", "keep : ", "mark 1", "deed 0", "log", "paste 1", "keep\n")

    def test_a_part_left_out_put_in_or_twice(self):
        for line in LINES.values():
            head, parting, text = line.partition(" : ")
            words = head.split(" ")
            for at in range(len(words)):
                self.refuse(" ".join(words[:at] + words[at + 1:]) + parting + text)
            for at in range(1, len(words) + 1):
                self.refuse(" ".join(words[:at] + ["1"] + words[at:]) + parting + text)
                self.refuse(" ".join(words[:at] + [""] + words[at:]) + parting + text)
                self.refuse(" ".join(words[:at] + words[at - 1:]) + parting + text)
            self.refuse(" " + line, head + " " + parting + text)
            if parting:
                self.refuse(head, head + " :", head + ": " + text, *[head + " :" + text][text.startswith(" "):])
            else:
                self.refuse(line + " ", line + " : ", line + " : x")

    def test_numbers_and_names(self):
        for line in LINES.values():
            head, parting, text = line.partition(" : ")
            words = head.split(" ")
            deed = parse_deed(line)
            numbers = [str(part) for part in (deed if deed[0] != "edit" else deed[1:2] + deed[2]) if type(part) is int]
            for at, word in enumerate(words):
                if at and word in numbers and not (deed[0] == "cut" or deed[0] == "begin"):
                    for other in ("00", "01", "x", "-1", "+1", "1000000000", "0000000001", "1_0", "1\n", ""):
                        self.refuse(" ".join(words[:at] + [other] + words[at + 1:]) + parting + text)
        for name in ("A", "a-b", "a" * 41, "a\n", "a\tb", ":", "a>b"):
            self.refuse(f"desk {name}", f"link {name} b 1", f"link b {name} 1", f"begin {name} pad : ",
                        f"begin a {name} : ",
                        f"open 1 {name} : ", f"copy 1 lines 0 0 : a {name}", f"ask 1 {name}", f"unlink a {name}",
                        f"cut {name} a", f"clear {name}", f"fall {name}")

    def test_texts_and_offers(self):
        self.refuse("enter 1 0 0 0 - - : ", "enter 1 0 0 0 - - : a\nb", "enter 1 0 0 0 - - : \t",
                    "enter 1 0 0 0 - sb : x",
                    "enter 1 0 0 0 A - : x", "mark 1 0 0 0 1 bold -", "mark 1 0 0 0 1 link A", "mark 1 0 0 0 1 nest no",
                    "copy 1 lines 0 0 : ", "copy 1 lines 0 0 : a a", "copy 1 lines 0 0 : a  b",
                    "copy 1 lines 0 0 : all all",
                    "copy 1 lines 0 : all", "copy 1 range 0 0 : all", "copy 1 rows 0 0 : all", "copy 1 : all")
        self.assertEqual(parse_deed("begin a b : x : y\n")[3], "x : y\n")
        self.assertEqual(parse_deed("open 1 a :  ")[3], " ")


class Doing(unittest.TestCase):
    def check(self, hall, deed, wanted):
        before = copy.deepcopy(deed)
        self.assertEqual(do(hall, deed), wanted)
        self.assertEqual(deed, before)

    def test_what_the_methods_return(self):
        hall = Hall()
        rows = [
            (("desk", "a"), None), (("desk", "b"), None), (("link", "b", "a", 2), None), (("keep",), 0),
            (("begin", "a", "pad", "form star bold * escape !\nmaker m from star to plain cost 1"), 1),
            (("begin", "b", "pad", ""), 2), (("open", 1, "star", "x*y*"), 1), (("edit", 1, ("cut", 0, 0, 1)), None),
            (("copy", 1, ("lines", 0, 1), None), 1), (("copy", 1, ("lines", 0, 0), ("b/plain",)), 2),
            (("ask", 1, "b/plain"), "x\ny"), (("keep",), 1), (("close", 1), None), (("drop", 2), None),
            (("end", 1), [(1, "a/star", (("a/star",), ("a/star",)))]), (("unlink", "a", "b"), []),
            (("crash", 2), None), (("link", "a", "b", 1), None), (("cut", "b", "a"), None), (("clear", "b"), []),
            (("fall", "a"), None), (("back", 1), None),
            (("clear", "a"), [(2, "b/plain", (("b/plain",), ("b/plain",)))]),
            (("back", 0), None),
        ]
        for deed, wanted in rows:
            with self.subTest(deed):
                self.check(hall, deed, wanted)
        self.assertEqual([hall.desks(), hall.linked(), hall.living()], [["a", "b"], [("a", "b", 2)], []])

    def test_what_the_methods_raise(self):
        hall = replay([
            ("desk", "a"), ("desk", "b"), ("begin", "a", "pad", "form star bold * escape !"), ("open", 1, "plain", "x"),
            ("copy", 1, ("lines", 0, 0), None),
        ])
        for deed, error in [
            (("desk", "a/b"), NoDesk), (("desk", "a"), NameTaken), (("link", "a", "c", 1), NoDesk),
            (("link", "a", "a", 1), NoLink),
            (("link", "a", "b", 1001), NoLink), (("begin", "c", "pad", ""), NoDesk),
            (("begin", "a", "a/b", ""), NoProgram),
            (("begin", "a", "pad", "x"), SyntaxProblem), (("begin", "b", "pad", "form star"), NameTaken),
            (("open", 2, "plain", ""), NoProgram), (("open", 1, "a/plain", ""), NoForm),
            (("open", 1, "plain", "\t"), SyntaxProblem),
            (("edit", 2, ("glue", 0)), NoDocument), (("edit", 1, ("glue", 0)), NoPlace),
            (("edit", 1, ("depth", 0, MOST)), TooLarge),
            (("edit", 1, ("erase", 0, 0, 1, 1)), NoPlace), (("copy", 1, ("lines", 0, MOST), None), NoPlace),
            (("copy", 1, ("lines", 0, 0), ("plain",)), NoForm), (("copy", 1, ("lines", 0, 0), ("a/star",)), NotMakable),
            (("ask", 2, "a/plain"), NoEntry), (("ask", 1, "plain"), NotOffered), (("close", 2), NoDocument),
            (("drop", 0), NoEntry),
            (("end", 9), NoProgram), (("crash", 0), NoProgram), (("back", 0), NoMark), (("unlink", "a", "b"), NoLink),
            (("cut", "a", "c"), NoDesk), (("clear", "c"), NoDesk), (("fall", "a/b"), NoDesk),
        ]:
            before = inside(hall)
            with self.subTest(deed), self.assertRaises(error):
                self.assertTrue(is_deed(deed))
                do(hall, deed)
            self.assertEqual(inside(hall), before)
        self.assertEqual(first_wrong([("desk", name) for name in "abcde"]), 4)
        with self.assertRaises(TooMany):
            replay([("desk", name) for name in "abcde"])


def deeds_of(seed, many):
    """A journal: deeds that are done in a hall, and some that it refuses."""
    chooser, account = Chooser(seed), Account()
    words = {"set_up": "desk", "open_document": "open", "mark": "keep"}
    journal, refused = [], []
    for call in [("set_up", "a"), ("begin", "a", "pad", "form star bold * escape !")] + [None] * many:
        call = call or chooser.call(account)
        deed = (words.get(call[0], call[0]),) + tuple(call[1:])
        if not is_expected(deed):
            continue
        try:
            getattr(account, call[0])(*call[1:])
        except ClipError:
            refused.append((len(journal), deed))
        else:
            journal.append(deed)
    return journal, refused


def marks_of(hall):
    """What a hall tells at each of its marks, from the last one on."""
    rows = []
    mark = hall.mark()
    for number in range(mark - 1, -1, -1):
        hall.back(number)
        rows.append(told(hall))
    return rows


class Journals(unittest.TestCase):
    def journals(self):
        for seed in range(25):
            yield deeds_of(1000 + seed, 60)

    def test_replay(self):
        for journal, _ in self.journals():
            before = copy.deepcopy(journal)
            one, other = replay(journal), replay(journal)
            self.assertIsInstance(one, Hall)
            hall = Hall()
            for deed in journal:
                do(hall, deed)
            self.assertEqual(inside(one), inside(hall))
            self.assertEqual(told(one), told(other))
            self.assertEqual(marks_of(one), marks_of(other))
            self.assertEqual(journal, before)

    def test_shortened(self):
        shorter = 0
        for journal, _ in self.journals():
            before = copy.deepcopy(journal)
            short = shortened(journal)
            self.assertIsInstance(short, list)
            self.assertNotIn("back", [deed[0] for deed in short])
            self.assertEqual(journal, before)
            one, other = replay(journal), replay(short)
            self.assertEqual(told(one), told(other))
            self.assertEqual([one.mark(), marks_of(one)], [other.mark(), marks_of(other)])
            shorter += len(short) < len(journal)
            self.assertEqual(shortened(short), short)
        self.assertGreater(shorter, 5)

    def test_what_is_left_out(self):
        a, b, c, d = [("desk", name) for name in "abcd"]
        keep, back = ("keep",), [("back", number) for number in range(3)]
        for journal, wanted in [
            ([], []), ([a], [a]), ([keep, a, back[0]], [keep]), ([a, keep, b, back[0], c], [a, keep, c]),
            ([keep, a, keep, b, keep, c, back[1], d], [keep, a, keep, d]),
            ([keep, a, keep, b, back[0], c, keep, d, back[1]], [keep, c, keep]),
            ([keep, a, keep, b, back[1], back[1], c, back[0], back[0], d], [keep, d]),
            ([keep, keep, a, back[0], keep, b, back[1], c], [keep, keep, c]),
            ([a, keep, b, keep, c, back[1], d, keep, back[2], back[0]], [a, keep]),
        ]:
            self.assertEqual(shortened(journal), wanted)
            self.assertEqual(told(replay(journal)), told(replay(wanted)))

    def test_the_same_later(self):
        for journal, _ in self.journals():
            one, other = replay(journal), replay(shortened(journal))
            chooser = random.Random(len(journal))
            for step in range(12):
                deed = chooser.choice([
                    ("keep",), ("desk", chooser.choice("abcd")), ("begin", "a", "pad", ""),
                    ("back", chooser.randint(0, 4)),
                    ("open", chooser.randint(1, 5), "plain", "x"),
                    ("copy", chooser.randint(1, 5), ("lines", 0, 0), None),
                    ("ask", chooser.randint(1, 5), "a/plain"), ("end", chooser.randint(1, 5)),
                ])
                answers = []
                for hall in (one, other):
                    try:
                        answers.append(do(hall, deed))
                    except ClipError as error:
                        answers.append((type(error).__name__, vars(error)))
                self.assertEqual(answers[0], answers[1])
                self.assertEqual(told(one), told(other))

    def test_first_wrong(self):
        for at, (journal, refused) in enumerate(self.journals()):
            self.assertIsNone(first_wrong(journal))
            self.assertIsNone(first_wrong(shortened(journal)))
            for place, deed in refused[:8]:
                before = copy.deepcopy(journal)
                self.assertEqual(first_wrong(journal[:place] + [deed] + journal[place:]), place)
                self.assertEqual(journal, before)
            for thing in (None, "keep", ["keep"], ("keep", 1), ("desk",), 7):
                place = at * len(journal) // 25
                self.assertEqual(first_wrong(journal[:place] + [thing] + journal[place:]), place)

    def test_first_wrong_of_short_lists(self):
        self.assertIsNone(first_wrong([]))
        for thing in objects_of_all_kinds():
            self.assertEqual(first_wrong([thing]), 0)
            self.assertEqual(first_wrong([("desk", "a"), thing, thing]), 1)
        self.assertEqual(first_wrong([("desk", "a"), ("desk", "a"), None]), 1)
        self.assertEqual(first_wrong([("keep",), ("desk", "a"), ("back", 0), ("clear", "a")]), 3)
