"""The desk: programs with their documents, and the history of what they copied."""

from clipforms.chains import common
from clipforms.contents import is_integer, is_word, keep
from clipforms.documents import Document, behind_redo, behind_undo, checked, edited, moved_within, put, selected
from clipforms.documents import unselected, with_content
from clipforms.ends import crashed, ended, to_make
from clipforms.entries import Entry, asked, gives, taken
from clipforms.errors import HistoryFull, NameTaken, NoDocument, NoEntry, NoForm, NoMaker, NoMark, NoProgram
from clipforms.errors import TooMany
from clipforms.forms import PLAIN, carried, is_form, read, write
from clipforms.makers import is_maker, named

MOST_PROGRAMS = 12
MOST_DOCUMENTS = 12
MOST_FORMS = 20
MOST_MAKERS = 30
MOST_ENTRIES = 20


class Kept:
    """What is kept of a copy at one moment; each change of it makes a new one."""

    def __init__(self, entry, program, is_once, is_pinned):
        self.entry = entry
        self.program = program
        self.is_once = is_once
        self.is_pinned = is_pinned


class State:
    """What desks and halls have. What stands in lists and dicts is never changed, so a copy has new ones of these."""

    def __init__(self):
        self.programs = {}
        self.forms = {PLAIN[0]: PLAIN}
        # (program, maker) in the order they came.
        self.makers = []
        self.documents = {}
        self.entries = {}
        self.rows = []
        self.last = {"program": 0, "document": 0, "entry": 0, "step": 0}

    def copy_to(self, other):
        """Give all of this to another state, which does not change with it."""
        other.programs = dict(self.programs)
        other.forms = dict(self.forms)
        other.makers = list(self.makers)
        other.documents = dict(self.documents)
        other.entries = dict(self.entries)
        other.rows = list(self.rows)
        other.last = dict(self.last)

    def new_number(self, kind):
        """Return the number of a new thing of a kind."""
        self.last[kind] += 1
        return self.last[kind]


class DeskState(State):
    """All that a desk has."""

    def __init__(self):
        State.__init__(self)
        # The numbers of the entries, as they stand in the history.
        self.order = []

    def copied(self):
        """Return a state like this one, which does not change with it."""
        other = DeskState()
        self.copy_to(other)
        other.order = list(self.order)
        return other


def is_number_in(table, thing):
    """Return whether any object is a number under which something stands in a dict."""
    return is_integer(thing) and thing in table


class Office:
    """What desks and halls do in the same way with their state and with the marks of it."""

    def __init__(self, state):
        self.state = state
        self.marks = []

    def need_program(self, program):
        """Raise NoProgram if any object is not the number of a living program."""
        if not is_number_in(self.state.programs, program):
            raise NoProgram("there is no such living program")

    def need_document(self, document):
        """Return the open document with this number; raise NoDocument if any object is not one."""
        if not is_number_in(self.state.documents, document):
            raise NoDocument("there is no such open document")
        return self.state.documents[document]

    def need_entry(self, entry):
        """Return what is kept under this number; raise NoEntry if any object is not one."""
        if not is_number_in(self.state.entries, entry):
            raise NoEntry("there is no such entry")
        return self.state.entries[entry]

    def new_document(self, program, names, form, text):
        """Open a document of a program, in a form of these names, with what the text writes; return its number."""
        if form not in names:
            raise NoForm("there is no known form of this name")
        signs = self.state.forms[form]
        content = read(signs, text)
        if len(self.state.documents) == MOST_DOCUMENTS:
            raise TooMany(MOST_DOCUMENTS)
        number = self.state.new_number("document")
        self.state.documents[number] = Document(program, signs, content, (), ())
        return number

    def document_rows(self):
        """Return the list of (number, program, name of the form) of the open documents, ascending."""
        return sorted([(number, held.program, held.form[0]) for number, held in self.state.documents.items()])

    def text_of(self, document):
        """Return the text of a document in its form."""
        held = self.need_document(document)
        return write(held.form, held.content)

    def keep_made(self, rows, later):
        """Keep an entry with what was made of it, and rows of this in the log."""
        number = later.number
        self.state.rows.extend([(number, maker, form, features) for maker, form, features in rows])
        held = self.state.entries[number]
        self.state.entries[number] = Kept(later, held.program, held.is_once, held.is_pinned)

    def make_before(self, forms, makers, staying, programs):
        """Make what would be lost with some programs, if only some makers stay; return rows of it with certificates."""
        told = []
        numbers = sorted(self.state.entries)
        for number in numbers:
            held = self.state.entries[number]
            stays_owned = held.program not in programs
            made = to_make(forms, makers, staying, held.entry, stays_owned)
            told.extend([(number, form, certificate) for form, certificate in made])
            rows, later = ended(forms, makers, staying, held.entry, stays_owned)
            self.keep_made(rows, later)
        return told

    def take_programs(self, programs):
        """Take some programs away, with their makers, their documents, and the own texts of their entries."""
        state = self.state
        for held in list(state.entries.values()):
            self.keep_made((), crashed(held.entry, held.program not in programs))
        state.programs = {number: row for number, row in state.programs.items() if number not in programs}
        state.makers = [(program, maker) for program, maker in state.makers if program not in programs]
        state.documents = {number: held for number, held in state.documents.items() if held.program not in programs}

    def new_mark(self):
        """Keep all of the state; return the number of the mark."""
        self.marks.append(self.state.copied())
        return len(self.marks) - 1

    def back_to(self, number):
        """Go back to a mark; later marks are gone."""
        if not is_integer(number) or not 0 <= number < len(self.marks):
            raise NoMark("there is no such mark")
        del self.marks[number + 1:]
        self.state = self.marks[number].copied()


class Desk(Office):
    """Programs, their documents, and the history of what was copied from these."""

    def __init__(self):
        Office.__init__(self, DeskState())

    def begin(self, name):
        """Begin a program and return its number."""
        if not is_word(name):
            raise NoProgram("the name of a program is a word")
        if len(self.state.programs) == MOST_PROGRAMS:
            raise TooMany(MOST_PROGRAMS)
        number = self.state.new_number("program")
        self.state.programs[number] = name
        return number

    def living(self):
        """Return the list of (number, name) of the living programs, ascending."""
        return sorted(self.state.programs.items())

    def bring(self, program, form):
        """Make a form known, for ever; a form that is known already stays known."""
        self.need_program(program)
        if not is_form(form):
            raise NoForm("this is no form")
        name = form[0]
        if self.state.forms.get(name, form) != form:
            raise NameTaken(f"another form has the name {name}")
        if name not in self.state.forms and len(self.state.forms) == MOST_FORMS:
            raise TooMany(MOST_FORMS)
        self.state.forms[name] = form

    def known_forms(self):
        """Return the list of the known forms, ascending."""
        return sorted(self.state.forms.values())

    def supply(self, program, maker):
        """Give a program a maker."""
        self.need_program(program)
        if not is_maker(self.state.forms, maker):
            raise NoMaker("this is no maker between known forms")
        if maker[0] in named(self.known_makers()):
            raise NameTaken(f"a known maker has the name {maker[0]}")
        if len(self.state.makers) == MOST_MAKERS:
            raise TooMany(MOST_MAKERS)
        self.state.makers.append((program, maker))

    def supplied(self):
        """Return the list of (program, maker) of the known makers, in the order they were given."""
        return list(self.state.makers)

    def known_makers(self):
        """Return the tuple of the known makers."""
        return tuple([maker for _, maker in self.state.makers])

    def open_document(self, program, form, text):
        """Open a document of a program with the content that the text writes; return its number."""
        self.need_program(program)
        return self.new_document(program, list(self.state.forms), form, text)

    def open_documents(self):
        """Return the list of (number, program, name of the form) of the open documents, ascending."""
        return self.document_rows()

    def close(self, document):
        """Close a document."""
        self.need_document(document)
        del self.state.documents[document]

    def content_of(self, document):
        """Return the content of a document."""
        return self.need_document(document).content

    def text(self, document):
        """Return the text of a document in its form."""
        return self.text_of(document)

    def edit(self, document, edit):
        """Edit a document."""
        held = self.need_document(document)
        self.change({document: edited(held.form, held.content, edit)})

    def change(self, contents):
        """Give documents other contents, in one step of them all, if this changes one."""
        documents = self.state.documents
        if all([documents[number].content == contents[number] for number in contents]):
            return
        step = self.state.new_number("step")
        for number, content in contents.items():
            documents[number] = with_content(documents[number], step, tuple(contents), content)

    def undo(self, document):
        """Undo the last edit of a document, and of the other one if it was a move between two."""
        self.need_document(document)
        self.state.documents.update(behind_undo(self.state.documents, document))

    def redo(self, document):
        """Redo the edit of a document that was undone last, and of the other one if it was a move between two."""
        self.need_document(document)
        self.state.documents.update(behind_redo(self.state.documents, document))

    def copy(self, document, selection, offer, is_once):
        """Copy what is selected in a document; return the number of the entry."""
        held = self.need_document(document)
        content = selected(held.content, selection)
        number = self.state.last["entry"] + 1
        entry = Entry(number, content, held.form[0], offer, self.state.forms, self.known_makers())
        if len(self.state.order) == MOST_ENTRIES:
            self.drop(self.last_unpinned())
        self.state.last["entry"] = number
        self.state.entries[number] = Kept(entry, held.program, is_once, False)
        self.state.order.insert(0, number)
        return number

    def last_unpinned(self):
        """Return the number of the last entry of the history that is not pinned."""
        for number in reversed(self.state.order):
            if not self.state.entries[number].is_pinned:
                return number
        raise HistoryFull("all entries of the full history are pinned")

    def offered(self, entry):
        """Return the list of (form, set of its features) of an entry, in the order of its offer."""
        return list(self.need_entry(entry).entry.dues.items())

    def can_ask(self, entry):
        """Return the list of the offered forms that a text at hand gives, in the order of the offer."""
        held = self.need_entry(entry).entry
        makers = self.known_makers()
        return [form for form in held.dues if gives(self.state.forms, makers, held, form)]

    def ask(self, entry, form):
        """Return the text of an offered form of an entry."""
        held = self.need_entry(entry)
        text, rows, later = asked(self.state.forms, self.known_makers(), held.entry, form)
        self.keep_made(rows, later)
        return text

    def log(self):
        """Return the list of (entry, maker, form, set) of what the makers have made, in order."""
        return list(self.state.rows)

    def end(self, program):
        """End a program; return the list of (entry, form, certificate) of what is made before."""
        self.need_program(program)
        staying = tuple([maker for owner, maker in self.state.makers if owner != program])
        told = self.make_before(self.state.forms, self.known_makers(), staying, (program,))
        self.take_programs((program,))
        return told

    def crash(self, program):
        """Let a program crash: nothing is made before."""
        self.need_program(program)
        self.take_programs((program,))

    def history(self):
        """Return the list of (entry, whether it is pinned, whether it was copied as once), the newest first."""
        entries = self.state.entries
        return [(number, entries[number].is_pinned, entries[number].is_once) for number in self.state.order]

    def front(self, entry):
        """Bring an entry to the front of the history."""
        self.need_entry(entry)
        self.state.order.remove(entry)
        self.state.order.insert(0, entry)

    def pin(self, entry):
        """Pin an entry: no copy drops it."""
        self.set_pinned(entry, True)

    def unpin(self, entry):
        """Unpin an entry."""
        self.set_pinned(entry, False)

    def set_pinned(self, entry, is_pinned):
        """Keep whether an entry is pinned."""
        held = self.need_entry(entry)
        self.state.entries[entry] = Kept(held.entry, held.program, held.is_once, is_pinned)

    def drop(self, entry):
        """Drop an entry from the history."""
        self.need_entry(entry)
        del self.state.entries[entry]
        self.state.order.remove(entry)

    def paste(self, entry, forms, document, place):
        """Put the content of an entry into a document; return the form that was taken of the list."""
        kept = self.need_entry(entry)
        held = self.need_document(document)
        able = carried(held.form)
        form = taken(kept.entry.dues, forms, able)
        more = keep(kept.entry.content, common(kept.entry.dues[form], able))
        content = put(held.form, held.content, place, more)
        _, rows, later = asked(self.state.forms, self.known_makers(), kept.entry, form)
        self.change({document: checked(held.form, content)})
        self.keep_made(rows, later)
        if kept.is_once:
            self.drop(entry)
        return form

    def drag(self, document, selection, target, place, is_move):
        """Put what is selected in a document into a document; a move also removes it from the first one."""
        held = self.need_document(document)
        other = self.need_document(target)
        more = keep(selected(held.content, selection), carried(other.form))
        if is_move and document == target:
            content = moved_within(held.form, held.content, selection, place)
        else:
            content = put(other.form, other.content, place, more)
        contents = {target: checked(other.form, content)}
        if is_move and document != target:
            contents[document] = unselected(held.content, selection)
        self.change(contents)

    def mark(self):
        """Keep the whole state; return the number of the mark."""
        return self.new_mark()

    def back(self, number):
        """Go back to a mark; later marks are gone."""
        self.back_to(number)
