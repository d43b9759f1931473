"""Points 2 and 26: the texts of programs, and the first problem of a text that is none."""

import copy
import re
import unittest
from itertools import product

from clipforms.errors import SyntaxProblem
from clipforms.forms import is_form
from clipforms.programs import format_program, parse_program

SIGN = re.compile(r"[!-~]")
TEXT = (
    "form full cell | level > bold * slant _ link [ : ] escape !\n"
    "form star bold * escape !\n"
    "form bare\n"
    "maker a from full to star cost 2\n"
    "form dot slant . link ( , ) escape !\n"
    "maker b2 from star to plain cost 0\n"
    "maker c from known to dot cost 1000"
)
FORMS = (
    ("full", "|", ">", "*", "_", "[", ":", "]", "!"), ("star", "", "", "*", "", "", "", "", "!"),
    ("bare", "", "", "", "", "", "", "", ""), ("dot", "", "", "", ".", "(", ",", ")", "!"),
)
MAKERS = (("a", "full", "star", 2), ("b2", "star", "plain", 0), ("c", "known", "dot", 1000))


def problem(text, names=()):
    """The line and the column of the first problem of a text; None if there is none."""
    try:
        parse_program(text, list(names))
    except SyntaxProblem as error:
        return (error.line, error.column)
    return None


def is_good_form(words, forms):
    """Whether the words are those of the line of a form behind forms of these names."""
    match = re.fullmatch(
        r"form ([a-z][a-z0-9]{0,7})( cell \S+)?( level \S+)?( bold \S+)?( slant \S+)?"
        r"( link \S+ \S+ \S+)?( escape \S+)?",
        " ".join(words),
    )
    if match is None or match[1] in ("plain", *forms):
        return False
    signs = [word for part in match.groups()[1:] if part for word in part.split()[1:]]
    if any(not SIGN.fullmatch(sign) or sign.isalnum() for sign in signs) or len(set(signs)) < len(signs):
        return False
    return (match[7] is not None) == (any(match.groups()[1:6]))


def is_good_maker(words, makers, names):
    """Whether the words are those of the line of a maker behind makers of these names, between forms of these names."""
    match = re.fullmatch(r"maker ([a-z0-9]{1,12}) from (\S+) to (\S+) cost (0|[1-9][0-9]*)", " ".join(words))
    if match is None or match[1] in makers or int(match[4]) > 1000:
        return False
    return match[2] in names and match[3] in names and match[2] != match[3]


def goes_on(words, forms, makers, names):
    """Whether some words can follow these, so that they are the words of a line."""
    signs = [sign for sign in "~^?=#@&;$+" if sign not in words]
    tails = [signs[:many] + tail for many in range(4) for tail in ([], ["escape", signs[3]])] + [["fresh"]]
    if not words or any(is_good_form(words + tail, forms) for tail in tails):
        return True
    for source, target in product([*names, "fresh"], repeat=2):
        whole = ["maker", "fresh", "from", source, "to", target, "cost", "0"]
        if is_good_maker(words + whole[len(words):], makers, [*names, "fresh"]) and "fresh" not in words[2:]:
            return True
    return False


def expected(text, names=()):
    """The first problem, found by trying what could follow."""
    forms, makers = [], []
    for number, line in enumerate(text.split("\n"), 1):
        if number == 51:
            return (51, 1)
        words = []
        known = ["plain", *names, *forms]
        for match in re.finditer(r"[^ ]+", line):
            words.append(match[0])
            if not goes_on(words, forms, makers, known):
                return (number, match.start() + 1)
        if is_good_form(words, forms):
            forms.append(words[1])
        elif is_good_maker(words, makers, known):
            makers.append(words[1])
        elif words:
            return (number, len(line) + 1)
    return None


class Parse(unittest.TestCase):
    def test_forms_and_makers_in_any_order(self):
        self.assertEqual(parse_program(TEXT, ["plain", "known"]), (FORMS, MAKERS))
        for form in FORMS:
            self.assertTrue(is_form(form))

    def test_nothing(self):
        for text in ("", " ", "\n", "   \n\n  ", "\n" * 49):
            self.assertEqual(parse_program(text, []), ((), ()))

    def test_more_spaces_and_lines_without_words(self):
        lines = TEXT.split("\n")
        loose = "\n".join(["", "   "] + ["  " + line.replace(" ", "   ") + "  \n " for line in lines])
        self.assertEqual(parse_program(loose, ["known"]), (FORMS, MAKERS))

    def test_each_part_alone(self):
        for part, at in (("cell", 1), ("level", 2), ("bold", 3), ("slant", 4)):
            form = ["x"] + [""] * 7 + ["!"]
            form[at] = "#"
            self.assertEqual(parse_program(f"form x {part} # escape !", []), ((tuple(form),), ()))
        self.assertEqual(
            parse_program("form x link { | } escape ~", []), ((("x", "", "", "", "", "{", "|", "}", "~"),), ()),
        )

    def test_all_signs(self):
        for code in range(33, 127):
            sign = chr(code)
            text = f"form x cell {sign} escape {'!' if sign != '!' else '?'}"
            self.assertEqual(problem(text), (1, 13) if sign.isalnum() else None)

    def test_words_that_are_names(self):
        text = "form form\nform cell\nmaker maker from form to cell cost 1\nmaker from from cell to form cost 2"
        forms = tuple((name,) + ("",) * 8 for name in ("form", "cell"))
        self.assertEqual(
            parse_program(text, []), (forms, (("maker", "form", "cell", 1), ("from", "cell", "form", 2))),
        )

    def test_names_that_are_known_already(self):
        self.assertEqual(parse_program("form star", ["star", "plain"])[0], (("star",) + ("",) * 8,))
        self.assertEqual(parse_program("maker a from b to c cost 1", ["b", "c"])[1], (("a", "b", "c", 1),))
        self.assertEqual(parse_program("maker a from plain to c cost 1", ["c"])[1], (("a", "plain", "c", 1),))

    def test_fifty_lines(self):
        lines = [f"form f{number}" for number in range(50)]
        self.assertEqual(len(parse_program("\n".join(lines), [])[0]), 50)
        for more in ("", " ", "form g", "x"):
            self.assertEqual(problem("\n".join(lines + [more])), (51, 1))
        self.assertEqual(problem("\n" * 50), (51, 1))
        self.assertEqual(problem("\n" * 49 + "x\ny"), (50, 1))

    def test_what_is_passed_stays(self):
        names = ["known", "plain"]
        before = copy.deepcopy(names)
        forms, makers = parse_program(TEXT, names)
        self.assertEqual(names, before)
        self.assertIsInstance(forms, tuple)
        self.assertIsInstance(makers, tuple)


class Problems(unittest.TestCase):
    def check(self, text, line, column, names=()):
        with self.subTest(text):
            self.assertEqual(problem(text, names), (line, column))
            self.assertEqual(expected(text, names), (line, column))

    def test_ends_of_lines(self):
        for text, column in [
            ("form", 5), ("form ", 6), ("form a bold", 12), ("form a bold *", 14), ("form a bold *  ", 16),
            ("form a bold * escape", 21), ("form a link", 12), ("form a link [ :", 16), ("form a link [ : ]", 18),
            ("maker", 6), ("maker a", 8), ("maker a from", 13), ("maker a from b", 15), ("maker a from b to", 18),
            ("maker a from b to plain", 24), ("maker a from b to plain cost", 29),
        ]:
            self.check(text, 1, column, ["b"])
            self.check("form z\n\n" + text + "\nx", 3, column, ["b"])

    def test_words(self):
        for text, column in [
            ("x", 1), ("  Form a", 3), ("forms a", 1), ("\tform a", 1), ("form\ta", 1), ("# form a", 1),
            ("form a x", 8), ("form a form", 8), ("form a *", 8), ("form a bold * level > escape !", 15),
            ("form a bold * bold _ escape !", 15), ("form a escape !", 8), ("form a escape", 8),
            ("form a bold * escape ! cell |", 24), ("form a bold * escape ! escape ?", 24),
            ("maker a to", 9), ("maker a from b from", 16), ("maker a from b to plain 5", 25),
            ("maker a from b to plain cost 5 5", 32), ("maker a from b to plain cost 5 to", 32),
        ]:
            self.check(text, 1, column, ["b"])

    def test_names(self):
        for name in ("plain", "A", "1a", "abcdefghi", "a-b", "a\tb", "*", "z"):
            self.check(f"form z\nform {name}", 2, 6)
        for name in ("A", "abcdefghijklm", "a-b", "z", "*"):
            self.check(f"maker z from b to plain cost 1\nmaker {name} from b to plain cost 1", 2, 7, ["b"])
        self.assertIsNone(problem("form abcdefgh\nmaker abcdefghijkl from plain to abcdefgh cost 1"))

    def test_sources_and_targets(self):
        for name in ("later", "A", "*", "a"):
            self.check(f"maker a from {name} to plain cost 1\nform later", 1, 14, ["b"])
            self.check(f"maker a from plain to {name} cost 1\nform later", 1, 23, ["b"])
        self.check("maker a from b to b cost 1", 1, 19, ["b"])
        self.check("maker a from plain to plain cost 1", 1, 23, ["b"])
        self.check("maker a from b to plain cost 1", 1, 14)
        self.assertIsNone(problem("maker a from b to plain cost 1", ["b"]))

    def test_where_nothing_but_plain_is_known(self):
        # Word by word, whatever could follow: no word ahead of the target is wrong.
        self.assertEqual(problem("maker a from plain to plain cost 1"), (1, 23))
        self.assertEqual(problem("maker a from plain to"), (1, 22))
        self.assertEqual(problem("maker a from plain"), (1, 19))

    def test_costs(self):
        for cost in ("01", "00", "1001", "10000", "-1", "+1", "1.0", "x", "1000000000000", "1_0", "\t1"):
            self.check(f"maker a from b to plain cost {cost}", 1, 30, ["b"])
        for cost in (0, 1, 9, 10, 999, 1000):
            self.assertEqual(parse_program(f"maker a from b to plain cost {cost}", ["b"])[1][0][3], cost)

    def test_signs(self):
        for sign in ("a", "Z", "5", "**", "*a", "\t", "bold", "-*"):
            self.check(f"form a cell {sign} escape !", 1, 13)
            self.check(f"form a bold * link [ {sign} ] escape !", 1, 22)
            self.check(f"form a bold * escape {sign}", 1, 22)
        self.check("form a cell * bold * escape !", 1, 20)
        self.check("form a link [ [ ] escape !", 1, 15)
        self.check("form a link [ : : escape !", 1, 17)
        self.check("form a bold * escape *", 1, 22)
        self.check("form a link [ : ] escape :", 1, 26)

    def test_the_first_of_several(self):
        self.check("form a bold *\nform a", 1, 14)
        self.check("form a bold a escape\nx", 1, 13)
        self.check("maker a from b to b cost x", 1, 14)

    def test_a_word_left_out_put_in_twice_or_exchanged(self):
        texts = set()
        lines = TEXT.split("\n")
        for at, line in enumerate(lines):
            words = line.split(" ")
            for place, word in enumerate(words):
                changes = [words[:place] + words[place + 1:], words[:place] + [word] + words[place:]]
                for other in (
                    "form", "escape", "cell", "!", "*", "star", "plain", "known", "to", "cost", "5", "~", "q", "link",
                ):
                    changes += [words[:place] + [other] + words[place + 1:], words[:place] + [other] + words[place:]]
                changes += [words[:place + 1] + [other] for other in ("x", "?", "escape")]
                for change in changes:
                    texts.add("\n".join(lines[:at] + [" ".join(change)] + lines[at + 1:]))
                    texts.add("\n".join(lines[:at] + ["  " + "  ".join(change) + " "] + lines[at + 1:]))
        self.assertGreater(len(texts), 2500)
        found = {None: 0}
        for text in texts:
            wanted = expected(text, ["known"])
            found[wanted] = found.get(wanted, 0) + 1
            self.assertEqual(problem(text, ["known"]), wanted, text)
        self.assertGreater(len(found), 100)
        self.assertGreater(found[None], 10)


class Format(unittest.TestCase):
    def test_canonical_texts(self):
        self.assertEqual(format_program(FORMS, MAKERS), "\n".join(sorted(TEXT.split("\n"), key=lambda line: line[0])))
        self.assertEqual(format_program((), ()), "")
        self.assertEqual(format_program((), MAKERS[:1]), "maker a from full to star cost 2")
        self.assertEqual(format_program(FORMS[2:3], ()), "form bare")

    def test_parsed_back(self):
        self.assertEqual(parse_program(format_program(FORMS, MAKERS), ["known"]), (FORMS, MAKERS))
        signs = ("|", ">", "*", "_", "[", ":", "]")
        forms = []
        for number, takes in enumerate(product([False, True], repeat=5)):
            chosen = [sign if take else "" for sign, take in zip(signs, takes + takes[4:] * 2)]
            forms.append((f"f{number}", *chosen, "!" if any(takes) else ""))
        for form in forms:
            self.assertTrue(is_form(form))
        self.assertEqual(parse_program(format_program(tuple(forms), ()), []), (tuple(forms), ()))
