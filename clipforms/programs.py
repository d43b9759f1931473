"""Programs as texts: the forms and the makers that a program brings, one per line."""

from clipforms.contents import DIGITS, is_word
from clipforms.errors import SyntaxProblem
from clipforms.forms import BOLD, CELL, END, ESCAPE, FORM_STRINGS, LEVEL, MIDDLE, OPENING, PLAIN, SLANT
from clipforms.forms import is_form_name, is_sign
from clipforms.makers import MOST_COST

MOST_PROGRAM_LINES = 50
# The parts of a form in their order: the word, and where its signs stand in the form.
PARTS = (
    ("cell", (CELL,)), ("level", (LEVEL,)), ("bold", (BOLD,)), ("slant", (SLANT,)),
    ("link", (OPENING, MIDDLE, END)), ("escape", (ESCAPE,)),
)


class LineReader:
    """Takes the words of one line, one behind another; the end of the line counts as the word ""."""

    def __init__(self, number, text):
        self.number = number
        self.words = words_of(text)
        self.at = 0

    def ahead(self):
        """Return the next word."""
        return self.words[self.at][1]

    def take(self):
        """Take the next word and return it."""
        word = self.ahead()
        self.at += 1
        return word

    def refuse(self):
        """Raise the problem at the next word."""
        raise SyntaxProblem(self.number, self.words[self.at][0])

    def need(self, is_right):
        """Refuse the next word if it is not right."""
        if not is_right:
            self.refuse()

    def take_only(self, word):
        """Take a word that must be this one."""
        self.need(self.ahead() == word)
        self.take()


def words_of(text):
    """Return the list of (column, word) of a line, with its end as the word ""."""
    words = []
    column = 1
    for word in text.split(" "):
        if word != "":
            words.append((column, word))
        column += len(word) + 1
    words.append((len(text) + 1, ""))
    return words


def parse_program(text, names):
    """Return the forms and the makers of the text of a program; raise SyntaxProblem at its first problem."""
    forms = {}
    makers = {}
    lines = text.split("\n")
    for at, line in enumerate(lines):
        if at == MOST_PROGRAM_LINES:
            raise SyntaxProblem(at + 1, 1)
        reader = LineReader(at + 1, line)
        word = reader.ahead()
        if word == "form":
            form = read_form(reader, forms)
            forms[form[0]] = form
        elif word == "maker":
            maker = read_maker(reader, makers, [PLAIN[0], *names, *forms])
            makers[maker[0]] = maker
        reader.take_only("")
    return (tuple(forms.values()), tuple(makers.values()))


def read_form(reader, forms):
    """Return the form of a line; forms has those ahead of it."""
    reader.take_only("form")
    name = reader.ahead()
    reader.need(is_form_name(name) and name != PLAIN[0] and name not in forms)
    form = [reader.take()] + [""] * (FORM_STRINGS - 1)
    for word, places in PARTS:
        if reader.ahead() == word:
            read_part(reader, form, places)
    reader.need(form[ESCAPE] != "" or form[1:] == [""] * (FORM_STRINGS - 1))
    return tuple(form)


def read_part(reader, form, places):
    """Read a part of a form: its word, and its signs into their places."""
    reader.need(places != (ESCAPE,) or form[1:] != [""] * (FORM_STRINGS - 1))
    reader.take()
    for place in places:
        sign = reader.ahead()
        reader.need(is_sign(sign) and sign not in form)
        form[place] = reader.take()


def read_maker(reader, makers, names):
    """Return the maker of a line; makers has those ahead of it, names the forms that there are."""
    reader.take_only("maker")
    name = reader.ahead()
    reader.need(is_word(name) and name not in makers)
    reader.take()
    reader.take_only("from")
    reader.need(reader.ahead() in names)
    source = reader.take()
    reader.take_only("to")
    reader.need(reader.ahead() in names and reader.ahead() != source)
    target = reader.take()
    reader.take_only("cost")
    reader.need(is_cost(reader.ahead()))
    return (name, source, target, int(reader.take()))


def is_cost(word):
    """Return whether a word is a cost: an integer as it is written, without a leading zero."""
    if not 1 <= len(word) <= len(str(MOST_COST)) or not all(character in DIGITS for character in word):
        return False
    return str(int(word)) == word and int(word) <= MOST_COST


def format_program(forms, makers):
    """Return the canonical text of a program."""
    lines = [" ".join(form_words(form)) for form in forms]
    for name, source, target, cost in makers:
        lines.append(f"maker {name} from {source} to {target} cost {cost}")
    return "\n".join(lines)


def form_words(form):
    """Return the words of the line of a form."""
    words = ["form", form[0]]
    for word, places in PARTS:
        if form[places[0]] != "":
            words.append(word)
            words.extend([form[place] for place in places])
    return words
