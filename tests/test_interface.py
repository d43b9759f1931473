"""The interface: names, arguments, and the files in which they are defined."""

import ast
import inspect
import pathlib
import unittest

from clipforms import (
    console, contents, desk, documents, ends, entries, errors, forms, hall, hallconsole, journals, makers, programs,
)

QUESTION = ["forms", "makers", "source", "features", "target"]
END = ["forms", "makers", "staying", "entry", "stays_owned"]
FUNCTIONS = {
    contents: {
        "is_content": ["thing"], "is_word": ["thing"], "drop": ["content", "feature"],
        "keep": ["content", "features"], "used": ["content"],
    },
    forms: {
        "is_form": ["thing"], "carried": ["form"], "write": ["form", "content"], "read": ["form", "text"],
    },
    makers: {
        "is_maker": ["forms", "thing"], "best": QUESTION, "shows_best": QUESTION + ["answer"],
        "made": ["forms", "makers", "names", "content"],
    },
    entries: {
        "asked": ["forms", "makers", "entry", "form"], "gives": ["forms", "makers", "entry", "form"],
    },
    ends: {
        "lost_forms": END, "to_make": END, "shows_need": END + ["form", "certificate"], "ended": END,
        "crashed": ["entry", "stays_owned"],
    },
    documents: {
        "edited": ["form", "content", "edit"], "selected": ["content", "selection"],
        "put": ["form", "content", "place", "more"], "moved_within": ["form", "content", "selection", "place"],
        "checked": ["form", "content"],
    },
    programs: {"parse_program": ["text", "names"], "format_program": ["forms", "makers"]},
    journals: {
        "is_deed": ["thing"], "format_deed": ["deed"], "parse_deed": ["line"], "do": ["hall", "deed"],
        "replay": ["journal"], "shortened": ["journal"], "first_wrong": ["journal"],
    },
}
CLASSES = {
    entries: {"Entry": {"__init__": ["number", "content", "own", "offer", "forms", "makers"]}},
    desk: {"Desk": {
        "__init__": [], "begin": ["name"], "living": [], "bring": ["program", "form"], "known_forms": [],
        "supply": ["program", "maker"], "supplied": [], "open_document": ["program", "form", "text"],
        "open_documents": [], "close": ["document"], "content_of": ["document"], "text": ["document"],
        "edit": ["document", "edit"], "undo": ["document"], "redo": ["document"],
        "copy": ["document", "selection", "offer", "is_once"], "offered": ["entry"], "can_ask": ["entry"],
        "ask": ["entry", "form"], "log": [], "end": ["program"], "crash": ["program"], "history": [],
        "front": ["entry"], "pin": ["entry"], "unpin": ["entry"], "drop": ["entry"],
        "paste": ["entry", "forms", "document", "place"],
        "drag": ["document", "selection", "target", "place", "is_move"], "mark": [], "back": ["number"],
    }},
    console: {"Console": {"__init__": [], "execute": ["line"]}},
    hall: {"Hall": {
        "__init__": [], "set_up": ["name"], "desks": [], "nodes": [], "link": ["one", "other", "cost"], "linked": [],
        "begin": ["desk", "name", "text"], "living": [], "all_makers": [],
        "open_document": ["program", "form", "text"], "open_documents": [], "text": ["document"],
        "edit": ["document", "edit"], "close": ["document"], "copy": ["document", "selection", "offer"],
        "all_entries": [], "drop": ["entry"], "offered": ["entry"], "can_ask": ["entry"], "ask": ["entry", "node"],
        "log": [], "end": ["program"], "unlink": ["one", "other"], "clear": ["desk"], "crash": ["program"],
        "cut": ["one", "other"], "fall": ["desk"], "mark": [], "back": ["number"],
    }},
    hallconsole: {"HallConsole": {"__init__": [], "execute": ["line"], "journal": []}},
}
ERRORS = {
    "SyntaxProblem": ["line", "column"], "NotCarried": ["feature"], "NotMakable": ["form", "closed"],
    "Gone": ["closed"], "TooMany": ["limit"],
}
PACKAGE = pathlib.Path(contents.__file__).parent
MOST_FILE_LINES = 399
MOST_FUNCTION_LINES = 40
MOST_LINE_CHARACTERS = 120


class Interface(unittest.TestCase):
    def test_functions(self):
        for module, functions in FUNCTIONS.items():
            for name, arguments in functions.items():
                with self.subTest(name):
                    function = getattr(module, name)
                    self.assertEqual(list(inspect.signature(function).parameters), arguments)
                    self.assertEqual(function.__module__, module.__name__)

    def test_classes(self):
        for module, classes in CLASSES.items():
            for name, methods in classes.items():
                made_class = getattr(module, name)
                self.assertEqual(made_class.__module__, module.__name__)
                for method, arguments in methods.items():
                    with self.subTest((name, method)):
                        # Defined in the class itself, not only in a base class.
                        self.assertIn(method, vars(made_class))
                        self.assertEqual(list(inspect.signature(vars(made_class)[method]).parameters)[1:], arguments)

    def test_errors_with_fields(self):
        for name, arguments in ERRORS.items():
            with self.subTest(name):
                self.assertEqual(list(inspect.signature(getattr(errors, name)).parameters), arguments)

    def test_plain(self):
        self.assertEqual(forms.PLAIN, ("plain",) + ("",) * 8)


class Sizes(unittest.TestCase):
    """The sizes and characters that the rules of the language allow."""

    def sources(self):
        return {path.name: path.read_text(encoding="utf-8") for path in sorted(PACKAGE.rglob("*.py"))}

    def test_characters(self):
        for name, source in self.sources().items():
            with self.subTest(name):
                self.assertTrue(all(char == "\n" or " " <= char <= "~" for char in source))

    def test_files_and_lines(self):
        for name, source in self.sources().items():
            with self.subTest(name):
                self.assertLessEqual(len(source.splitlines()), MOST_FILE_LINES)
                self.assertLessEqual(max(map(len, source.splitlines()), default=0), MOST_LINE_CHARACTERS)

    def test_functions(self):
        for name, source in self.sources().items():
            for node in ast.walk(ast.parse(source)):
                if isinstance(node, ast.FunctionDef):
                    with self.subTest((name, node.name)):
                        self.assertLessEqual(node.end_lineno - node.lineno + 1, MOST_FUNCTION_LINES)
