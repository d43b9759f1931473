"""The hall: desks that are joined by links, and entries that are offered at all of them."""

from clipforms.chains import is_name
from clipforms.contents import is_integer, is_word
from clipforms.desk import MOST_PROGRAMS, Kept, Office, State
from clipforms.documents import Document, edited, selected
from clipforms.entries import Entry, asked, behind, gives
from clipforms.errors import NameTaken, NoDesk, NoLink, NoProgram, TooMany
from clipforms.forms import PLAIN
from clipforms.makers import MOST_COST, named
from clipforms.programs import parse_program

MOST_DESKS = 4
MOST_LINKS = 5
MOST_DESK_FORMS = 6
MOST_HALL_MAKERS = 20
MOST_HALL_ENTRIES = 40


class HallState(State):
    """All that a hall has; its programs are rows (desk, name)."""

    def __init__(self):
        State.__init__(self)
        # The names of the forms that each desk knows; the signs of a name never change.
        self.known = {}
        # The costs of the links, each under its two desks, the lesser one first.
        self.links = {}

    def copied(self):
        """Return a state like this one, which does not change with it."""
        other = HallState()
        self.copy_to(other)
        other.known = dict(self.known)
        other.links = {pair: self.links[pair] for pair in self.links}
        return other


def node_of(desk, form):
    """Return the node of a form at a desk; the names of its makers are made in the same way."""
    return f"{desk}/{form}"


def is_at(name, desk):
    """Return whether a node is one of a desk."""
    return name.startswith(f"{desk}/")


def pair_of(one, other):
    """Return two desks, the lesser one first."""
    return (min(one, other), max(one, other))


def carriages(known, links):
    """Return the list of the carriages of links, ascending; known has the forms that each desk knows."""
    makers = []
    for (one, other), cost in links.items():
        for form in known[one]:
            if form in known[other]:
                makers.append((f"{one}>{other}/{form}", node_of(one, form), node_of(other, form), cost))
                makers.append((f"{other}>{one}/{form}", node_of(other, form), node_of(one, form), cost))
    return sorted(makers)


def placed(desk, maker):
    """Return a maker of a program as it is known in the hall."""
    name, source, target, cost = maker
    return (node_of(desk, name), node_of(desk, source), node_of(desk, target), cost)


def offered_less(entry, desk):
    """Return an entry that offers no node of a desk any more."""
    later = behind(entry, entry.texts, entry.is_owned)
    later.dues = {name: due for name, due in entry.dues.items() if not is_at(name, desk)}
    return later


def texts_less(entry, desk):
    """Return an entry without the texts at the nodes of a desk."""
    return behind(entry, tuple([text for text in entry.texts if not is_at(text[0], desk)]), entry.is_owned)


class Hall(Office):
    """Desks with their programs and documents, the links between them, and the entries."""

    def __init__(self):
        Office.__init__(self, HallState())

    def need_desk(self, desk):
        """Raise NoDesk if any object is not the name of a desk."""
        if not is_name(self.state.known, desk):
            raise NoDesk("there is no such desk")

    def need_link(self, one, other):
        """Return the two desks of a link, the lesser one first; raise NoDesk, then NoLink if they are not linked."""
        self.need_desk(one)
        self.need_desk(other)
        pair = pair_of(one, other)
        if pair not in self.state.links:
            raise NoLink("the desks are not linked")
        return pair

    def set_up(self, name):
        """Set up a desk."""
        if not is_word(name):
            raise NoDesk("the name of a desk is a word")
        if name in self.state.known:
            raise NameTaken(f"there is a desk {name}")
        if len(self.state.known) == MOST_DESKS:
            raise TooMany(MOST_DESKS)
        self.state.known[name] = (PLAIN[0],)

    def desks(self):
        """Return the list of the names of the desks, ascending."""
        return sorted(self.state.known)

    def nodes(self):
        """Return the list of all nodes, ascending."""
        return sorted(self.node_forms())

    def node_forms(self):
        """Return a dict from all nodes to their forms."""
        forms = self.state.forms
        return {node_of(desk, name): forms[name] for desk, names in self.state.known.items() for name in names}

    def link(self, one, other, cost):
        """Link two desks."""
        self.need_desk(one)
        self.need_desk(other)
        if one == other or not is_integer(cost) or not 0 <= cost <= MOST_COST:
            raise NoLink("a link joins two desks, at a cost from 0 to 1,000")
        pair = pair_of(one, other)
        if pair in self.state.links:
            raise NameTaken("the desks are linked")
        if len(self.state.links) == MOST_LINKS:
            raise TooMany(MOST_LINKS)
        self.state.links[pair] = cost

    def linked(self):
        """Return the list of (lesser desk, other desk, cost) of the links, ascending."""
        return sorted([(one, other, cost) for (one, other), cost in self.state.links.items()])

    def begin(self, desk, name, text):
        """Begin a program with the forms and makers of a text; return its number."""
        self.need_desk(desk)
        if not is_word(name):
            raise NoProgram("the name of a program is a word")
        state = self.state
        forms, makers = parse_program(text, list(state.known[desk]))
        rows = [placed(desk, maker) for maker in makers]
        self.need_free_names(forms, rows)
        known = (*state.known[desk], *[form[0] for form in forms if form[0] not in state.known[desk]])
        if len(known) > MOST_DESK_FORMS:
            raise TooMany(MOST_DESK_FORMS)
        if len(state.makers) + len(rows) > MOST_HALL_MAKERS:
            raise TooMany(MOST_HALL_MAKERS)
        if len(state.programs) == MOST_PROGRAMS:
            raise TooMany(MOST_PROGRAMS)
        number = state.new_number("program")
        state.programs[number] = (desk, name)
        state.known[desk] = known
        state.forms.update({form[0]: form for form in forms})
        state.makers.extend([(number, maker) for maker in rows])
        return number

    def need_free_names(self, forms, makers):
        """Raise NameTaken if a form has other signs than one of its name, or a maker the name of another one."""
        for form in forms:
            if self.state.forms.get(form[0], form) != form:
                raise NameTaken(f"the form {form[0]} has other signs")
        taken = named([maker for _, maker in self.state.makers])
        for maker in makers:
            if maker[0] in taken:
                raise NameTaken(f"there is a maker {maker[0]}")

    def living(self):
        """Return the list of (number, desk, name) of the living programs, ascending."""
        return sorted([(number, desk, name) for number, (desk, name) in self.state.programs.items()])

    def all_makers(self):
        """Return the list of the known makers: those of programs as they came, then the carriages, ascending."""
        return self.makers_without((), ())

    def makers_without(self, programs, pairs):
        """Return the list of the known makers but those of some programs and of some links."""
        state = self.state
        makers = [maker for program, maker in state.makers if program not in programs]
        links = {pair: cost for pair, cost in state.links.items() if pair not in pairs}
        return makers + carriages(state.known, links)

    def open_document(self, program, form, text):
        """Open a document of a program with the content that the text writes; return its number."""
        self.need_program(program)
        return self.new_document(program, self.state.known[self.desk_of(program)], form, text)

    def desk_of(self, program):
        """Return the desk of a program."""
        return self.state.programs[program][0]

    def open_documents(self):
        """Return the list of (number, program, name of the form) of the open documents, ascending."""
        return self.document_rows()

    def text(self, document):
        """Return the text of a document in its form."""
        return self.text_of(document)

    def edit(self, document, edit):
        """Edit a document."""
        held = self.need_document(document)
        content = edited(held.form, held.content, edit)
        self.state.documents[document] = Document(held.program, held.form, content, (), ())

    def close(self, document):
        """Close a document."""
        self.need_document(document)
        del self.state.documents[document]

    def copy(self, document, selection, offer):
        """Copy what is selected in a document; return the number of the entry."""
        held = self.need_document(document)
        content = selected(held.content, selection)
        state = self.state
        own = node_of(self.desk_of(held.program), held.form[0])
        number = state.last["entry"] + 1
        entry = Entry(number, content, own, offer, self.node_forms(), tuple(self.all_makers()))
        if len(state.entries) == MOST_HALL_ENTRIES:
            raise TooMany(MOST_HALL_ENTRIES)
        state.entries[state.new_number("entry")] = Kept(entry, held.program, False, False)
        return number

    def all_entries(self):
        """Return the list of the numbers of the entries, ascending."""
        return sorted(self.state.entries)

    def drop(self, entry):
        """Drop an entry."""
        self.need_entry(entry)
        del self.state.entries[entry]

    def offered(self, entry):
        """Return the list of (node, set of its features) of an entry, in the order of its offer."""
        return list(self.need_entry(entry).entry.dues.items())

    def can_ask(self, entry):
        """Return the list of the offered nodes that a text at hand gives, in the order of the offer."""
        held = self.need_entry(entry).entry
        forms = self.node_forms()
        makers = tuple(self.all_makers())
        return [name for name in held.dues if gives(forms, makers, held, name)]

    def ask(self, entry, node):
        """Return the text of an offered node of an entry."""
        held = self.need_entry(entry).entry
        text, rows, later = asked(self.node_forms(), tuple(self.all_makers()), held, node)
        self.keep_made(rows, later)
        return text

    def log(self):
        """Return the list of (entry, maker, node, set) of what the makers and carriages have made, in order."""
        return list(self.state.rows)

    def end(self, program):
        """End a program; return the list of (entry, node, certificate) of what is made before."""
        self.need_program(program)
        told = self.make_without((program,), ())
        self.take_programs((program,))
        return told

    def crash(self, program):
        """Let a program crash: nothing is made before."""
        self.need_program(program)
        self.take_programs((program,))

    def unlink(self, one, other):
        """Take a link away; return the list of (entry, node, certificate) of what is made before."""
        pair = self.need_link(one, other)
        told = self.make_without((), (pair,))
        self.take_links((pair,))
        return told

    def cut(self, one, other):
        """Cut a link: nothing is made before."""
        pair = self.need_link(one, other)
        self.take_links((pair,))

    def clear(self, desk):
        """Clear a desk away; return the list of (entry, node, certificate) of what is made before."""
        self.need_desk(desk)
        self.offer_less(desk)
        told = self.make_without(self.programs_of(desk), self.links_of(desk))
        self.take_down(desk)
        return told

    def fall(self, desk):
        """Let a desk fall: nothing is made before."""
        self.need_desk(desk)
        self.offer_less(desk)
        self.take_down(desk)

    def programs_of(self, desk):
        """Return the tuple of the programs of a desk."""
        return tuple([program for program, (at, _) in self.state.programs.items() if at == desk])

    def links_of(self, desk):
        """Return the tuple of the links of a desk, as pairs of desks."""
        return tuple([pair for pair in self.state.links if desk in pair])

    def make_without(self, programs, pairs):
        """Make what would be lost with some programs and some links; return rows of it with certificates."""
        staying = tuple(self.makers_without(programs, pairs))
        return self.make_before(self.node_forms(), tuple(self.all_makers()), staying, programs)

    def take_links(self, pairs):
        """Take some links away."""
        self.state.links = {pair: cost for pair, cost in self.state.links.items() if pair not in pairs}

    def offer_less(self, desk):
        """Offer the nodes of a desk no more."""
        for held in list(self.state.entries.values()):
            self.keep_made((), offered_less(held.entry, desk))

    def take_down(self, desk):
        """Take a desk away with all that is at it, when its nodes are offered no more."""
        self.take_programs(self.programs_of(desk))
        self.take_links(self.links_of(desk))
        for held in list(self.state.entries.values()):
            self.keep_made((), texts_less(held.entry, desk))
        del self.state.known[desk]

    def mark(self):
        """Keep all of the hall; return the number of the mark."""
        return self.new_mark()

    def back(self, number):
        """Go back to a mark; later marks are gone."""
        self.back_to(number)
