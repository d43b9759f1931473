"""Points 2, 3 and 27 to 33: long runs of deeds in a hall, beside a plain account of what must come of them."""

import copy
import random
import unittest

from clipforms.contents import keep
from clipforms.desk import Desk
from clipforms.documents import edited, selected
from clipforms.ends import crashed, ended, to_make
from clipforms.entries import Entry, asked, gives
from clipforms.errors import (
    ClipError, Gone, NameTaken, NoDesk, NoDocument, NoEntry, NoForm, NoLink, NoMark, NoProgram, TooMany,
)
from clipforms.forms import read, write
from clipforms.hall import Hall
from clipforms.programs import parse_program
from tests.samples import BOLD, NO, PLAIN, SMALL, inside

FORMS = (
    "form full cell | level > bold * slant _ link [ : ] escape !", "form star bold * escape !",
    "form page cell | bold * slant _ escape !", "form dot bold . escape !", "form cell cell | escape !",
)
TEXTS = ["", "a", "a*b*", "x|y", ">a\nb", "[w:a]_b_|*c*\n>d"]


class Account:
    """What a hall must answer, with all that it has in plain lists and dicts."""

    def __init__(self):
        self.known, self.signs, self.links = {}, {"plain": PLAIN}, {}
        self.programs, self.makers, self.documents = {}, [], {}
        self.entries, self.owners, self.rows, self.made, self.marks = {}, {}, [], [0, 0, 0], []
        self.once = []

    def need(self, error, table, *things):
        for thing in things:
            if thing not in table:
                raise error("")

    def forms(self):
        return {f"{desk}/{name}": self.signs[name] for desk in self.known for name in self.known[desk]}

    def carriages(self, links):
        rows = []
        for pair in links:
            for one, other in (sorted(pair), sorted(pair, reverse=True)):
                for name in set(self.known[one]) & set(self.known[other]):
                    rows.append((f"{one}>{other}/{name}", f"{one}/{name}", f"{other}/{name}", self.links[pair]))
        return sorted(rows)

    def all_makers(self, programs=(), pairs=()):
        makers = [maker for program, maker in self.makers if program not in programs]
        return tuple(makers + self.carriages([pair for pair in self.links if pair not in pairs]))

    def set_up(self, name):
        if name in self.known:
            raise NameTaken("")
        if len(self.known) == 4:
            raise TooMany(4)
        self.known[name] = ["plain"]

    def link(self, one, other, cost):
        self.need(NoDesk, self.known, one, other)
        if one == other:
            raise NoLink("")
        if frozenset((one, other)) in self.links:
            raise NameTaken("")
        if len(self.links) == 5:
            raise TooMany(5)
        self.links[frozenset((one, other))] = cost

    def begin(self, desk, name, text):
        self.need(NoDesk, self.known, desk)
        forms, makers = parse_program(text, self.known[desk])
        rows = [tuple(f"{desk}/{part}" for part in maker[:3]) + maker[3:] for maker in makers]
        if any(self.signs.get(form[0], form) != form for form in forms):
            raise NameTaken("")
        if {row[0] for row in rows} & {maker[0] for _, maker in self.makers}:
            raise NameTaken("")
        known = self.known[desk] + [form[0] for form in forms if form[0] not in self.known[desk]]
        for many, limit in ((len(known), 6), (len(self.makers + rows), 20), (len(self.programs) + 1, 12)):
            if many > limit:
                raise TooMany(limit)
        self.made[0] += 1
        self.programs[self.made[0]] = (desk, name)
        self.known[desk] = known
        self.signs.update({form[0]: form for form in forms})
        self.makers += [(self.made[0], row) for row in rows]
        return self.made[0]

    def open_document(self, program, form, text):
        self.need(NoProgram, self.programs, program)
        self.need(NoForm, self.known[self.programs[program][0]], form)
        content = read(self.signs[form], text)
        if len(self.documents) == 12:
            raise TooMany(12)
        self.made[1] += 1
        self.documents[self.made[1]] = (program, self.signs[form], content)
        return self.made[1]

    def edit(self, number, edit):
        self.need(NoDocument, self.documents, number)
        program, form, content = self.documents[number]
        self.documents[number] = (program, form, edited(form, content, edit))

    def close(self, number):
        self.need(NoDocument, self.documents, number)
        del self.documents[number]

    def copy(self, number, selection, offer):
        self.need(NoDocument, self.documents, number)
        program, form, content = self.documents[number]
        own = f"{self.programs[program][0]}/{form[0]}"
        entry = Entry(self.made[2] + 1, selected(content, selection), own, offer, self.forms(), self.all_makers())
        if len(self.entries) == 40:
            raise TooMany(40)
        self.made[2] += 1
        self.entries[self.made[2]], self.owners[self.made[2]] = entry, program
        return self.made[2]

    def drop(self, number):
        self.need(NoEntry, self.entries, number)
        del self.entries[number]

    def can_ask(self, number):
        entry = self.entries[number]
        return [name for name in entry.dues if gives(self.forms(), self.all_makers(), entry, name)]

    def keep_made(self, number, rows, entry):
        self.rows += [(number,) + row for row in rows]
        self.entries[number] = entry
        # No text is made twice, unless it went with its desk.
        for _, name, features in rows:
            assert (number, name, features) not in self.once
            self.once.append((number, name, features))

    def ask(self, number, name):
        self.need(NoEntry, self.entries, number)
        text, rows, entry = asked(self.forms(), self.all_makers(), self.entries[number], name)
        self.keep_made(number, rows, entry)
        return text

    def leave(self, is_orderly, programs, pairs, desk=None):
        """Do a deed: programs and links go, and perhaps a desk."""
        told = []
        staying = self.all_makers(programs, pairs)
        for number in sorted(self.entries):
            entry, stays = copy.deepcopy(self.entries[number]), self.owners[number] not in programs
            entry.dues = {name: due for name, due in entry.dues.items() if name.split("/")[0] != desk}
            if is_orderly:
                told += [(number,) + pair for pair in to_make(self.forms(), self.all_makers(), staying, entry, stays)]
                rows, entry = ended(self.forms(), self.all_makers(), staying, entry, stays)
                self.keep_made(number, rows, entry)
            else:
                self.entries[number] = entry = crashed(entry, stays)
            entry.texts = tuple(text for text in entry.texts if text[0].split("/")[0] != desk)
        self.programs = {number: row for number, row in self.programs.items() if number not in programs}
        self.makers = [row for row in self.makers if row[0] not in programs]
        self.documents = {number: row for number, row in self.documents.items() if row[0] not in programs}
        self.links = {pair: cost for pair, cost in self.links.items() if pair not in pairs}
        self.known = {name: names for name, names in self.known.items() if name != desk}
        self.once = [row for row in self.once if row[1].split("/")[0] != desk]
        return told if is_orderly else None

    def leave_program(self, is_orderly, number):
        self.need(NoProgram, self.programs, number)
        return self.leave(is_orderly, [number], [])

    def leave_link(self, is_orderly, one, other):
        self.need(NoDesk, self.known, one, other)
        self.need(NoLink, self.links, frozenset((one, other)))
        return self.leave(is_orderly, [], [frozenset((one, other))])

    def leave_desk(self, is_orderly, desk):
        self.need(NoDesk, self.known, desk)
        programs = [number for number, row in self.programs.items() if row[0] == desk]
        return self.leave(is_orderly, programs, [pair for pair in self.links if desk in pair], desk)

    def end(self, number):
        return self.leave_program(True, number)

    def crash(self, number):
        return self.leave_program(False, number)

    def unlink(self, one, other):
        return self.leave_link(True, one, other)

    def cut(self, one, other):
        return self.leave_link(False, one, other)

    def clear(self, desk):
        return self.leave_desk(True, desk)

    def fall(self, desk):
        return self.leave_desk(False, desk)

    def mark(self):
        self.marks.append(copy.deepcopy({key: value for key, value in vars(self).items() if key != "marks"}))
        return len(self.marks) - 1

    def back(self, number):
        self.need(NoMark, range(len(self.marks)), number)
        del self.marks[number + 1:]
        vars(self).update(copy.deepcopy(self.marks[number]))

    def told(self):
        return [
            sorted(self.known), sorted(self.forms()),
            sorted((*sorted(pair), cost) for pair, cost in self.links.items()),
            [(number, *row) for number, row in self.programs.items()], list(self.all_makers()),
            [(number, row[0], row[1][0]) for number, row in self.documents.items()],
            [write(row[1], row[2]) for row in self.documents.values()], self.rows, sorted(self.entries),
            [(list(self.entries[number].dues.items()), self.can_ask(number)) for number in sorted(self.entries)],
        ]


def told(hall):
    """What a hall tells, as the account tells it."""
    return [
        hall.desks(), hall.nodes(), hall.linked(), hall.living(), hall.all_makers(), hall.open_documents(),
        [hall.text(number) for number, _, _ in hall.open_documents()], hall.log(), hall.all_entries(),
        [(hall.offered(entry), hall.can_ask(entry)) for entry in hall.all_entries()],
    ]


class Chooser(random.Random):
    """Chooses calls; most of them can be done."""

    def one_of(self, things):
        things = list(things)
        return self.choice(things) if things and self.random() < 0.97 else self.randint(0, 9)

    def change(self, content):
        line = self.randrange(len(content))
        cell = self.randrange(len(content[line][1]))
        size = sum(len(text) for text, _ in content[line][1][cell])
        return self.choice([
            ("enter", line, cell, self.randint(0, size), "q", self.choice([NO, BOLD])), ("cut", line, cell, size),
            ("erase", line, cell, 0, size), ("depth", line, self.randint(0, 2)), ("widen", line, cell), ("glue", line),
        ])

    def program_text(self, known):
        forms = self.sample(FORMS, self.randint(0, 3))
        names = sorted({*known, *(form.split()[1] for form in forms)})
        makers = []
        for word in self.sample("abcdefgh", self.randint(0, 3) if len(names) > 1 else 0):
            source, target = self.sample(names, 2)
            makers.append(f"maker {word} from {source} to {target} cost {self.randint(0, 3)}")
        return "\n".join(forms + makers)

    def call(self, account):
        """The name of a method and its arguments."""
        desk, other, program = self.one_of(account.known), self.one_of(account.known), self.one_of(account.programs)
        document, entry = self.one_of(account.documents), self.one_of(account.entries)
        content = account.documents[document][2] if document in account.documents else SMALL
        home = account.known.get(account.programs.get(program, ("", ""))[0], ["plain"])
        nodes = sorted(account.forms()) or ["a/plain"]
        last = self.randrange(len(content))
        offer = tuple(self.sample(nodes, self.randint(0, len(nodes)))) if self.random() < 0.3 else None
        name = self.choice([name for name in account.entries[entry].dues] or nodes) if entry in account.entries else ""
        link = self.one_of(account.links)
        pair = tuple(sorted(link)) if isinstance(link, frozenset) else (desk, other)
        word = self.choice(
            ["set_up", "set_up", "end", "crash", "unlink", "cut", "clear", "fall", "mark", "back", "close", "drop"]
            + ["link"] * 3 + ["begin"] * 5 + ["open_document"] * 4 + ["edit"] * 3 + ["copy"] * 6 + ["ask"] * 8
        )
        return (word, *{
            "set_up": (self.choice("abcde"),), "end": (program,), "crash": (program,), "unlink": pair, "cut": pair,
            "clear": (desk,), "fall": (desk,), "mark": (), "back": (self.randint(0, len(account.marks)),),
            "close": (document,), "drop": (entry,), "link": (desk, other, self.randint(0, 3)),
            "begin": (desk, "pad", self.program_text(account.known.get(desk, ["plain"]))),
            "open_document": (program, self.choice(home), self.choice(TEXTS)), "edit": (document, self.change(content)),
            "copy": (document, ("lines", self.randint(0, last), last), offer), "ask": (entry, name),
        }[word])


class Runs(unittest.TestCase):
    def run_calls(self, seed, many, words=None):
        chooser, hall, account = Chooser(seed), Hall(), Account()
        is_sudden = False
        done = {}
        for desk in "ab":
            self.check(hall, account, ("set_up", desk))
            self.check(hall, account, ("begin", desk, "pad", FORMS[0]))
        for _ in range(many):
            call = chooser.call(account)
            if words is None or call[0] in words:
                is_sudden = is_sudden or call[0] in ("crash", "cut", "fall")
                outcome = self.check(hall, account, call)
                self.check_asking(account, call, outcome, is_sudden)
                done[call[0], outcome[0]] = done.get((call[0], outcome[0]), 0) + 1
        return done

    def check(self, hall, account, call):
        word, *arguments = call
        before = inside(hall)
        wanted = self.outcome(account, word, arguments)
        outcome = self.outcome(hall, word, arguments)
        self.assertEqual(outcome, wanted, call)
        if outcome[0] == "refused":
            self.assertEqual(inside(hall), before, call)
        self.assertEqual(told(hall), account.told(), call)
        return outcome

    def outcome(self, thing, word, arguments):
        try:
            return ("done", getattr(thing, word)(*arguments))
        except ClipError as error:
            return ("refused", type(error).__name__, dict(vars(error)))

    def check_asking(self, account, call, outcome, is_sudden):
        """The main promise: the text of the copy, or Gone, and this never without sudden deeds."""
        if call[0] == "ask" and outcome[0] == "done":
            entry = account.entries[call[1]]
            form = account.forms()[call[2]]
            self.assertEqual(outcome[1], write(form, keep(entry.content, entry.dues[call[2]])))
        if outcome[0] == "refused" and outcome[1] == Gone.__name__:
            self.assertTrue(is_sudden)

    def test_runs(self):
        done = {}
        for seed in range(40):
            with self.subTest(seed):
                for key, many in self.run_calls(seed, 160).items():
                    done[key] = done.get(key, 0) + many
        for word in ("set_up", "link", "begin", "copy", "ask", "end", "crash", "unlink", "cut", "clear", "fall",
                     "back"):
            self.assertGreater(done[word, "done"], 20, word)
        self.assertGreater(done["ask", "refused"], 5)

    def test_runs_without_sudden_deeds(self):
        words = ("set_up", "link", "begin", "open_document", "edit", "copy", "ask", "end", "unlink", "clear", "close")
        for seed in range(100, 125):
            with self.subTest(seed):
                self.run_calls(seed, 200, words)


class OneDesk(unittest.TestCase):
    """A hall of one desk tells what a desk tells, but for the names."""

    def bare(self, thing):
        """What a hall has told, with the names that a desk would tell."""
        if isinstance(thing, str):
            return thing[2:] if thing.startswith("a/") else thing
        if isinstance(thing, (list, tuple)):
            return type(thing)(self.bare(part) for part in thing)
        return thing

    def outcome(self, action, *arguments):
        try:
            return self.bare(action(*arguments))
        except ClipError as error:
            return (type(error).__name__, {key: self.bare(value) for key, value in vars(error).items()})

    def test_runs(self):
        for seed in range(40):
            self.run_both(random.Random(seed))

    def run_both(self, chooser):
        hall, desk = Hall(), Desk()
        hall.set_up("a")
        programs, documents, entries = [], [], []
        forms, makers = parse_program("\n".join(FORMS[:4]), [])
        self.assertEqual(hall.begin("a", "pad", "\n".join(FORMS[:4])), desk.begin("pad"))
        for form in forms:
            desk.bring(1, form)
        names = ["plain"] + [form[0] for form in forms]
        for step in range(80):
            kind = chooser.choice(["begin", "open", "copy", "ask", "ask", "end", "crash", "edit", "drop", "close"])
            number = chooser.randint(1, 1 + len(documents) + len(programs))
            if kind == "begin" and len(desk.living()) < 5:
                source, target = chooser.sample(names, 2)
                maker = (f"m{step}", source, target, chooser.randint(0, 3))
                text = f"maker {maker[0]} from {source} to {target} cost {maker[3]}"
                program = desk.begin("pad")
                desk.supply(program, maker)
                self.assertEqual(hall.begin("a", "pad", text), program)
                programs.append(program)
            elif kind == "open" and len(desk.open_documents()) < 8:
                form, text = chooser.choice(names), chooser.choice(TEXTS)
                self.both(hall.open_document, desk.open_document, number, form, text)
                documents.append(number)
            elif kind == "copy":
                offer = tuple(chooser.sample(names, 2)) if chooser.random() < 0.5 else None
                nodes = None if offer is None else tuple(f"a/{name}" for name in offer)
                one = self.outcome(hall.copy, number, ("lines", 0, 0), nodes)
                self.assertEqual(one, self.outcome(desk.copy, number, ("lines", 0, 0), offer, False))
                entries.append(one)
            elif kind == "ask":
                name = chooser.choice(names)
                self.assertEqual(self.outcome(hall.ask, number, f"a/{name}"), self.outcome(desk.ask, number, name))
            elif kind in ("end", "crash", "drop", "close") and chooser.random() < 0.5:
                self.both(getattr(hall, kind), getattr(desk, kind), number)
            elif kind == "edit":
                self.both(hall.edit, desk.edit, number, ("enter", 0, 0, 0, "q", NO))
            self.check(hall, desk)

    def both(self, one, other, *arguments):
        self.assertEqual(self.outcome(one, *arguments), self.outcome(other, *arguments))

    def check(self, hall, desk):
        while len(desk.history()) > 15:
            desk.drop(desk.history()[-1][0])
            hall.drop(hall.all_entries()[0])
        self.assertEqual(self.bare(hall.log()), desk.log())
        self.assertEqual([maker for _, maker in desk.supplied()], self.bare(hall.all_makers()))
        self.assertEqual([(number, name) for number, _, name in hall.living()], desk.living())
        self.assertEqual(hall.open_documents(), desk.open_documents())
        self.assertEqual(hall.all_entries(), sorted(entry for entry, _, _ in desk.history()))
        for entry in hall.all_entries():
            self.both(hall.offered, desk.offered, entry)
            self.both(hall.can_ask, desk.can_ask, entry)
