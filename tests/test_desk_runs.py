"""Points 2, 3 and 14 to 25: long runs of calls on a desk, beside a plain account of what must come of them."""

import copy
import random
import unittest

from clipforms.contents import keep
from clipforms.desk import Desk
from clipforms.documents import checked, edited, moved_within, put, selected
from clipforms.ends import crashed, ended, to_make
from clipforms.entries import Entry, asked, gives
from clipforms.errors import (
    ClipError, EditedSince, Gone, HistoryFull, NameTaken, NoDocument, NoEntry, NoForm, NoMaker, NoMark, NoProgram,
    NothingToUndo, NotOffered, TooMany,
)
from clipforms.forms import carried, read, write
from tests.samples import ALL, ALL_FEATURES, BOLD, NO, PLAIN, SMALL, forms_named, inside

FORMS = forms_named("full", "star", "dot", "cell", "page", "note")
TEXTS = ["", "a", "a*b*", "x|y", ">a\nb", "[w:a]_b_|*c*\n>d", "abc\nd\ne"]


class Account:
    """What a desk must answer, with all numbers, contents and entries in plain lists and dicts."""

    def __init__(self):
        self.programs, self.forms, self.makers = {}, {"plain": PLAIN}, []
        self.documents, self.steps = {}, []
        self.entries, self.owners, self.flags, self.order = {}, {}, {}, []
        self.rows, self.made, self.marks = [], [0, 0, 0], []

    def known(self, program=None):
        return tuple(maker for owner, maker in self.makers if owner != program)

    def program(self, number):
        if number not in self.programs:
            raise NoProgram("")

    def document(self, number):
        if number not in self.documents:
            raise NoDocument("")
        return self.documents[number]

    def entry(self, number):
        if number not in self.order:
            raise NoEntry("")
        return self.entries[number]

    def begin(self, name):
        if len(self.programs) == 12:
            raise TooMany(12)
        self.made[0] += 1
        self.programs[self.made[0]] = name
        return self.made[0]

    def bring(self, program, form):
        self.program(program)
        if self.forms.setdefault(form[0], form) != form:
            raise NameTaken("")

    def supply(self, program, maker):
        self.program(program)
        if not {maker[1], maker[2]} <= set(self.forms) or maker[1] == maker[2]:
            raise NoMaker("")
        if maker[0] in [other[0] for other in self.known()]:
            raise NameTaken("")
        self.makers.append((program, maker))

    def open_document(self, program, form, text):
        self.program(program)
        if form not in self.forms:
            raise NoForm("")
        content = read(self.forms[form], text)
        if len(self.documents) == 12:
            raise TooMany(12)
        self.made[1] += 1
        self.documents[self.made[1]] = [program, self.forms[form], content]
        return self.made[1]

    def close(self, number):
        self.document(number)
        del self.documents[number]

    def text(self, number):
        _, form, content = self.document(number)
        return write(form, content)

    def step(self, contents):
        """Do an edit: each step has the contents before and behind it, and whether it is undone."""
        if all(self.documents[number][2] == content for number, content in contents.items()):
            return
        for step in self.steps:
            step["gone"] |= {number for number in contents if step["undone"]}
        before = {number: self.documents[number][2] for number in contents}
        self.steps.append({"before": before, "behind": contents, "undone": False, "gone": set()})
        for number, content in contents.items():
            self.documents[number][2] = content

    def steps_of(self, number, undone):
        return [step for step in self.steps if number in step["behind"] and number not in step["gone"]
                and step["undone"] == undone]

    def turn(self, number, undone):
        """Undo the last step that is not undone, or redo the first one that is."""
        self.document(number)
        at = 0 if undone else -1
        found = self.steps_of(number, undone)
        if not found:
            raise NothingToUndo("")
        step = found[at]
        for other in step["behind"]:
            if other not in self.documents or self.steps_of(other, undone)[at:][:1] != [step]:
                raise EditedSince("")
        step["undone"] = not undone
        for other, content in step["before" if not undone else "behind"].items():
            self.documents[other][2] = content

    def undo(self, number):
        self.turn(number, False)

    def redo(self, number):
        self.turn(number, True)

    def edit(self, number, edit):
        _, form, content = self.document(number)
        self.step({number: edited(form, content, edit)})

    def copy(self, number, selection, offer, is_once):
        program, form, content = self.document(number)
        entry = Entry(self.made[2] + 1, selected(content, selection), form[0], offer, self.forms, self.known())
        if len(self.order) == 20:
            loose = [other for other in self.order if not self.flags[other][0]]
            if not loose:
                raise HistoryFull("")
            self.order.remove(loose[-1])
        self.made[2] += 1
        self.order.insert(0, self.made[2])
        self.entries[self.made[2]], self.owners[self.made[2]] = entry, program
        self.flags[self.made[2]] = [False, is_once]
        return self.made[2]

    def offered(self, number):
        return list(self.entry(number).dues.items())

    def can_ask(self, number):
        entry = self.entry(number)
        return [form for form in entry.dues if gives(self.forms, self.known(), entry, form)]

    def keep_made(self, number, rows, entry):
        self.rows += [(number,) + row for row in rows]
        self.entries[number] = entry

    def ask(self, number, form):
        text, rows, entry = asked(self.forms, self.known(), self.entry(number), form)
        self.keep_made(number, rows, entry)
        return text

    def end(self, program):
        self.program(program)
        told = []
        for number in sorted(self.order):
            how = (self.forms, self.known(), self.known(program), self.entries[number], self.owners[number] != program)
            told += [(number,) + pair for pair in to_make(*how)]
            self.keep_made(number, *ended(*how))
        self.leave(program)
        return told

    def crash(self, program):
        self.program(program)
        for number in self.order:
            self.entries[number] = crashed(self.entries[number], self.owners[number] != program)
        self.leave(program)

    def leave(self, program):
        del self.programs[program]
        self.makers = [row for row in self.makers if row[0] != program]
        self.documents = {number: row for number, row in self.documents.items() if row[0] != program}

    def front(self, number):
        self.entry(number)
        self.order.sort(key=lambda other: other != number)

    def pin(self, number):
        self.entry(number)
        self.flags[number][0] = True

    def unpin(self, number):
        self.entry(number)
        self.flags[number][0] = False

    def drop(self, number):
        self.entry(number)
        self.order.remove(number)

    def paste(self, number, forms, document, place):
        entry, (_, able, content) = self.entry(number), self.document(document)
        ranks = []
        for at, form in enumerate(forms):
            if form in entry.dues:
                kept = [feature in entry.dues[form] and feature in carried(able) for feature in ALL_FEATURES]
                ranks.append(([not keeps for keeps in kept], at, form))
        if not ranks:
            raise NotOffered("")
        form = min(ranks)[2]
        later = put(able, content, place, keep(keep(entry.content, entry.dues[form]), carried(able)))
        _, rows, behind = asked(self.forms, self.known(), entry, form)
        self.step({document: checked(able, later)})
        self.keep_made(number, rows, behind)
        if self.flags[number][1]:
            self.order.remove(number)
        return form

    def drag(self, document, selection, target, place, is_move):
        (_, form, content), (_, able, other) = self.document(document), self.document(target)
        if is_move and document == target:
            self.step({document: checked(form, moved_within(form, content, selection, place))})
            return
        more = keep(selected(content, selection), carried(able))
        contents = {target: checked(able, put(able, other, place, more))}
        if is_move:
            word = "delete" if selection[0] == "lines" else "erase"
            contents[document] = edited(form, content, (word,) + selection[1:])
        self.step(contents)

    def mark(self):
        self.marks.append(copy.deepcopy({key: value for key, value in vars(self).items() if key != "marks"}))
        return len(self.marks) - 1

    def back(self, number):
        if number not in range(len(self.marks)):
            raise NoMark("")
        del self.marks[number + 1:]
        vars(self).update(copy.deepcopy(self.marks[number]))

    def told(self):
        return [
            list(self.programs.items()), sorted(self.forms.values()), self.makers, self.rows,
            [(number, row[0], row[1][0]) for number, row in self.documents.items()],
            [row[2] for row in self.documents.values()], [(number, *self.flags[number]) for number in self.order],
        ]


def told(desk):
    """What a desk tells, as the account tells it."""
    return [
        desk.living(), desk.known_forms(), desk.supplied(), desk.log(), desk.open_documents(),
        [desk.content_of(number) for number, _, _ in desk.open_documents()], desk.history(),
    ]


class Chooser(random.Random):
    """Chooses calls; most of them can be done."""

    def number(self, numbers):
        numbers = list(numbers)
        return self.choice(numbers) if numbers and self.random() < 0.97 else self.randint(0, 9)

    def place(self, content):
        line = self.randrange(len(content))
        cell = self.randrange(len(content[line][1]))
        size = sum(len(text) for text, _ in content[line][1][cell])
        return (line, cell, self.randint(0, size + (self.random() < 0.03)))

    def span(self, content):
        line, cell, end = self.place(content)
        return (line, cell, self.randint(0, max(0, end - 1)), end)

    def selection(self, content):
        if self.random() < 0.5:
            return ("range", *self.span(content))
        last = self.randrange(len(content))
        return ("lines", self.randint(0, last), last)

    def change(self, content):
        line, cell, offset = self.place(content)
        return self.choice([
            ("enter", line, cell, offset, self.choice(["q", "r s"]), self.choice([NO, BOLD, ALL])),
            ("erase", *self.span(content)), ("mark", *self.span(content), "bold", self.random() < 0.5),
            ("cut", line, cell, offset), ("glue", line), ("depth", line, self.randint(0, 2)), ("widen", line, cell),
            ("narrow", line, cell), ("insert", line, SMALL[self.randint(0, 2):]),
            ("delete", line, self.randint(line, len(content) - 1)),
        ])

    def call(self, account):
        """The name of a method and its arguments."""
        names = sorted(account.forms)
        program, entry = self.number(account.programs), self.number(account.order)
        document, target = self.number(account.documents), self.number(account.documents)
        content = account.documents[document][2] if document in account.documents else SMALL
        place = self.place(account.documents[target][2]) if target in account.documents else (0, 0, 0)
        dues = account.entries[entry].dues if entry in account.order else {"plain": ()}
        form = self.choice(sorted(dues) or names)
        offer = tuple(self.sample(names, self.randint(0, len(names)))) if self.random() < 0.5 else None
        maker = (self.choice("abcdefgh"), self.choice(names), self.choice(names), self.randint(0, 3))
        word = self.choice(
            ["begin", "bring", "supply", "supply", "supply", "open_document", "open_document", "close", "end", "crash"]
            + ["edit"] * 6 + ["undo"] * 4 + ["redo"] * 4 + ["copy"] * 5 + ["ask"] * 5
            + ["front", "pin", "unpin", "drop"] + ["paste"] * 3 + ["drag"] * 4 + ["mark", "back"]
        )
        return (word, *{
            "begin": ("pad",), "bring": (program, self.choice(sorted(FORMS.values()))), "supply": (program, maker),
            "open_document": (program, self.choice(names), self.choice(TEXTS)), "close": (document,), "end": (program,),
            "crash": (program,), "edit": (document, self.change(content)), "undo": (document,), "redo": (document,),
            "copy": (document, self.selection(content), offer, self.random() < 0.2), "ask": (entry, form),
            "front": (entry,), "pin": (entry,), "unpin": (entry,), "drop": (entry,),
            "paste": (entry, self.sample(names, self.randint(1, len(names))), target, place),
            "drag": (document, self.selection(content), target, place, self.random() < 0.7),
            "mark": (), "back": (self.randint(0, len(account.marks)),),
        }[word])


class Runs(unittest.TestCase):
    def run_calls(self, seed, many, words=None):
        chooser, desk, account = Chooser(seed), Desk(), Account()
        for call in [("begin", "pad"), ("begin", "pen")] + [("bring", 1, form) for form in FORMS.values()]:
            self.check(desk, account, call)
        has_crashed = False
        done = {}
        for _ in range(many):
            call = chooser.call(account)
            if words is None or call[0] in words:
                has_crashed = has_crashed or call[0] == "crash"
                outcome = self.check(desk, account, call)
                self.check_asking(account, call, outcome, has_crashed)
                done[call[0], outcome[0]] = done.get((call[0], outcome[0]), 0) + 1
        return done

    def check(self, desk, account, call):
        """Do a call at the desk and in the account; return what came of it."""
        word, *arguments = call
        before, passed = inside(desk), copy.deepcopy(arguments)
        wanted = self.outcome(account, word, arguments)
        outcome = self.outcome(desk, word, arguments)
        self.assertEqual(outcome, wanted, call)
        self.assertEqual(arguments, passed)
        if outcome[0] == "refused":
            self.assertEqual(inside(desk), before, call)
        self.assertEqual(told(desk), account.told(), call)
        for entry in account.order:
            self.assertEqual(desk.offered(entry), account.offered(entry))
            self.assertEqual(desk.can_ask(entry), account.can_ask(entry))
        return outcome

    def outcome(self, thing, word, arguments):
        try:
            return ("done", getattr(thing, word)(*arguments))
        except ClipError as error:
            fields = {key: value for key, value in vars(error).items()}
            return ("refused", type(error).__name__, fields)

    def check_asking(self, account, call, outcome, has_crashed):
        """The main promise: the text of the copy, or Gone, and this never where no program has crashed."""
        if call[0] == "ask" and outcome[0] == "done":
            entry = account.entries[call[1]]
            form = account.forms[call[2]]
            self.assertEqual(outcome[1], write(form, keep(entry.content, entry.dues[call[2]])))
        if outcome[0] == "refused" and outcome[1] == Gone.__name__:
            self.assertTrue(has_crashed)
        made = [(entry, form, features) for entry, _, form, features in account.rows]
        self.assertEqual(len(made), len(set(made)))

    def test_runs(self):
        done = {}
        for seed in range(30):
            with self.subTest(seed):
                for key, many in self.run_calls(seed, 150).items():
                    done[key] = done.get(key, 0) + many
        for word in ("begin", "supply", "open_document", "edit", "undo", "redo", "copy", "ask", "paste", "drag", "end"):
            self.assertGreater(done[word, "done"], 10, word)

    def test_runs_without_crashes(self):
        words = ("supply", "begin", "open_document", "copy", "ask", "edit", "end", "close", "drop")
        for seed in range(100, 115):
            with self.subTest(seed):
                self.run_calls(seed, 250, words)

    def test_documents_alone(self):
        words = ("open_document", "edit", "undo", "redo", "drag", "close", "mark", "back")
        for seed in range(200, 220):
            with self.subTest(seed):
                self.run_calls(seed, 300, words)
