"""Forms: the signs in which a content is written as a text, and read again."""

from clipforms.contents import FEATURES, MOST_CELL_CHARACTERS, MOST_CELLS, MOST_DEPTH, MOST_LINES
from clipforms.contents import MOST_ONLY_CELL_CHARACTERS, MOST_WORD_CHARACTERS, NO_MARKS
from clipforms.contents import WORD_CHARACTERS, keep, merged
from clipforms.errors import SyntaxProblem

PLAIN = ("plain", "", "", "", "", "", "", "", "")
# Where the signs stand in a form.
CELL = 1
LEVEL = 2
BOLD = 3
SLANT = 4
OPENING = 5
MIDDLE = 6
END = 7
ESCAPE = 8
FORM_STRINGS = 9
NAME_LETTERS = "abcdefghijklmnopqrstuvwxyz"
MOST_NAME_CHARACTERS = 8
LETTERS_AND_DIGITS = "0123456789ABCDEFGHIJKLMNOPQRSTUVWXYZabcdefghijklmnopqrstuvwxyz"


def is_form(thing):
    """Return whether any object is a form."""
    if not isinstance(thing, tuple) or len(thing) != FORM_STRINGS:
        return False
    if not all(isinstance(part, str) for part in thing):
        return False
    return is_form_name(thing[0]) and are_signs(thing[1:]) and are_complete(thing)


def is_form_name(text):
    """Return whether a string can be the name of a form."""
    if not 1 <= len(text) <= MOST_NAME_CHARACTERS or text[0] not in NAME_LETTERS:
        return False
    return all(character in WORD_CHARACTERS for character in text)


def are_signs(texts):
    """Return whether each string is missing or a sign, and no two signs are the same."""
    there = [text for text in texts if text != ""]
    return all(is_sign(text) for text in there) and len(set(there)) == len(there)


def is_sign(text):
    """Return whether a string is one character that can be a sign."""
    return len(text) == 1 and " " < text <= "~" and text not in LETTERS_AND_DIGITS


def are_complete(form):
    """Return whether the signs of links are there together, and escape with other signs."""
    links = [form[OPENING] != "", form[MIDDLE] != "", form[END] != ""]
    if any(links) and not all(links):
        return False
    return (form[ESCAPE] != "") == ("".join(form[1:ESCAPE]) != "")


def carried(form):
    """Return the set of the features that a form carries."""
    signs = (form[CELL], form[LEVEL], form[OPENING], form[BOLD], form[SLANT])
    return tuple([feature for feature, sign in zip(FEATURES, signs) if sign != ""])


def signs_of(form):
    """Return a string of all signs of a form."""
    return "".join(form[1:])


def write(form, content):
    """Return the text of a content in a form."""
    kept = keep(content, carried(form))
    return "\n".join([written_line(form, line) for line in kept])


def written_line(form, line):
    """Return the text of a line."""
    depth, cells = line
    return form[LEVEL] * depth + form[CELL].join([written_cell(form, cell) for cell in cells])


def written_cell(form, cell):
    """Return the text of a cell."""
    parts = []
    before = NO_MARKS
    for text, marks in cell:
        parts.append(written_change(form, before, marks))
        parts.append(escaped(form, text))
        before = marks
    parts.append(written_change(form, before, NO_MARKS))
    return "".join(parts)


def written_change(form, before, behind):
    """Return the signs between two pieces: they lead from the marks before to those behind."""
    parts = []
    is_other_link = before[0] != behind[0]
    if is_other_link and before[0] != "":
        parts.append(form[END])
    if before[1] != behind[1]:
        parts.append(form[BOLD])
    if before[2] != behind[2]:
        parts.append(form[SLANT])
    if is_other_link and behind[0] != "":
        parts.append(form[OPENING] + behind[0] + form[MIDDLE])
    return "".join(parts)


def escaped(form, text):
    """Return the text with the escape sign in front of each sign of the form."""
    signs = signs_of(form)
    return "".join([form[ESCAPE] + character if character in signs else character for character in text])


def read(form, text):
    """Return the content that a text writes; raise SyntaxProblem at its first problem."""
    lines = []
    for line_text in text.split("\n"):
        if len(lines) == MOST_LINES:
            raise SyntaxProblem(MOST_LINES + 1, 1)
        lines.append(read_line(form, len(lines) + 1, line_text))
    return tuple(lines)


def read_line(form, number, text):
    """Return the line that a text writes; number is that of the line in the whole text."""
    depth = read_depth(form, number, text)
    reader = CellsReader(form, number, depth)
    for character in text[depth:]:
        reader.take(character)
    return (depth, reader.finished())


def read_depth(form, number, text):
    """Return how many level signs the text of a line begins with."""
    depth = 0
    while depth < len(text) and text[depth] == form[LEVEL]:
        depth += 1
        if depth > MOST_DEPTH:
            raise SyntaxProblem(number, depth)
    return depth


class CellsReader:
    """Reads the cells of one line, character by character, behind its level signs."""

    def __init__(self, form, number, column):
        self.form = form
        self.signs = signs_of(form)
        self.number = number
        self.column = column
        self.cells = []
        self.pieces = []
        self.link_word = ""
        self.bold = False
        self.slant = False
        # The word that has begun and is not ended yet; None outside of a word.
        self.word = None
        self.is_escaping = False

    def refuse(self):
        """Raise the problem at the character that is taken, or at the end of the line."""
        raise SyntaxProblem(self.number, self.column)

    def take(self, character):
        """Take the next character of the line."""
        self.column += 1
        if character == "\t":
            self.refuse()
        if self.is_escaping:
            self.take_escaped(character)
        elif self.word is not None:
            self.take_in_word(character)
        elif character in self.signs:
            self.take_sign(character)
        else:
            self.need_room()
            self.put(character)

    def take_escaped(self, character):
        """Take what is behind an escape sign, for which there was room."""
        if character not in self.signs:
            self.refuse()
        self.is_escaping = False
        self.put(character)

    def take_in_word(self, character):
        """Take a character of a word, or the middle sign that ends it."""
        if character == self.form[MIDDLE] and self.word != "":
            self.link_word = self.word
            self.word = None
        elif character in WORD_CHARACTERS and len(self.word) < MOST_WORD_CHARACTERS:
            self.word += character
        else:
            self.refuse()

    def take_sign(self, character):
        """Take a sign that is neither escaped nor in a word."""
        if character == self.form[CELL]:
            self.take_cell_sign()
        elif character == self.form[BOLD]:
            self.bold = not self.bold
        elif character == self.form[SLANT]:
            self.slant = not self.slant
        elif character == self.form[OPENING] and self.link_word == "":
            self.word = ""
        elif character == self.form[END] and self.link_word != "":
            self.link_word = ""
        elif character == self.form[ESCAPE]:
            # A character too many is a problem at its escape sign already.
            self.need_room()
            self.is_escaping = True
        else:
            self.refuse()

    def take_cell_sign(self):
        """End a cell behind which another one comes."""
        if len(self.cells) + 1 == MOST_CELLS or len(self.pieces) > MOST_CELL_CHARACTERS:
            self.refuse()
        self.end_cell()

    def end_cell(self):
        """End a cell: no mark may be on."""
        if (self.link_word, self.bold, self.slant) != NO_MARKS:
            self.refuse()
        self.cells.append(merged(self.pieces))
        self.pieces = []

    def need_room(self):
        """Refuse a character for which the cell has no room."""
        # A first cell may turn out to be the only one.
        most = MOST_CELL_CHARACTERS if self.cells else MOST_ONLY_CELL_CHARACTERS
        if len(self.pieces) == most:
            self.refuse()

    def put(self, character):
        """Put a character with the marks that are on into the cell, as a piece of its own."""
        self.pieces.append((character, (self.link_word, self.bold, self.slant)))

    def finished(self):
        """Return the cells, when the whole line is taken."""
        self.column += 1
        if self.is_escaping or self.word is not None:
            self.refuse()
        self.end_cell()
        return tuple(self.cells)
