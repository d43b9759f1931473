"""The console: a desk that is worked by lines of text."""

from clipforms.contents import DIGITS, is_characters, is_word
from clipforms.desk import Desk
from clipforms.errors import InvalidCommand

MOST_DIGITS = 9
# What stands between the words of a command and its text.
PARTING = " : "
# The kinds of arguments that are read from the text.
OF_TEXT = ("text", "characters", "forms", "offer")
FLAGS = {"-": (False, False), "b": (True, False), "s": (False, True), "bs": (True, True)}
VALUES = {"yes": True, "no": False}
MISSING = "none"
SIGNS = 8
SELECTION_NUMBERS = {"lines": 2, "range": 4}
# The commands and the kinds of their arguments.
EDIT_SHAPES = {
    "enter": ("number", "number", "number", "number", "link", "flags", "characters"),
    "erase": ("number", "number", "number", "number", "number"),
    "mark": ("number", "number", "number", "number", "number", "feature"),
    "cut": ("number", "number", "number", "number"),
    "glue": ("number", "number"),
    "depth": ("number", "number", "number"),
    "widen": ("number", "number", "number"),
    "narrow": ("number", "number", "number"),
    "delete": ("number", "number", "number"),
}
SHAPES = {
    "begin": ("word",), "end": ("number",), "crash": ("number",), "close": ("number",), "undo": ("number",),
    "redo": ("number",), "front": ("number",), "pin": ("number",), "unpin": ("number",), "drop": ("number",),
    "back": ("number",), "bring": ("number", "word", "signs"), "supply": ("number", "word", "word", "word", "number"),
    "open": ("number", "word", "text"), "text": ("number",), "ask": ("number", "word"),
    "copy": ("number", "selection", "offer"), "copyonce": ("number", "selection", "offer"),
    "offered": ("number",), "can": ("number",), "paste": ("number", "number", "place", "forms"),
    "drag": ("number", "selection", "to", "number", "place"), "move": ("number", "selection", "to", "number", "place"),
    "programs": (), "documents": (), "makers": (), "log": (), "history": (), "keep": (),
}


class Words:
    """Takes the arguments of a command one behind another; raises InvalidCommand for what is none."""

    def __init__(self, head, text):
        self.words = head.split(" ")
        self.at = 0
        self.tail = text

    def take(self, kind):
        """Take an argument of a kind."""
        takers = {
            "number": self.take_number, "word": self.take_word, "signs": self.take_signs, "to": self.take_to,
            "link": self.take_link, "flags": self.take_flags, "feature": self.take_feature, "place": self.take_place,
            "selection": self.take_selection, "text": self.take_text, "characters": self.take_characters,
            "forms": self.take_forms, "offer": self.take_offer,
        }
        taker = takers[kind]
        return taker()

    def take_word(self):
        """Take any word."""
        if self.at == len(self.words) or self.words[self.at] == "":
            raise InvalidCommand("a word is missing")
        self.at += 1
        return self.words[self.at - 1]

    def take_number(self):
        """Take a number."""
        return number_of(self.take_word())

    def take_place(self):
        """Take a line, a cell and an offset."""
        return (self.take_number(), self.take_number(), self.take_number())

    def take_selection(self):
        """Take a selection."""
        word = self.take_word()
        if word not in SELECTION_NUMBERS:
            raise InvalidCommand(f"no selection begins with {word}")
        return (word, *[self.take_number() for _ in range(SELECTION_NUMBERS[word])])

    def take_to(self):
        """Take the word between what is dragged and where it comes."""
        if self.take_word() != "to":
            raise InvalidCommand("the word to is missing")

    def take_signs(self):
        """Take the signs of a form, a tuple."""
        words = [self.take_word() for _ in range(SIGNS)]
        return tuple(["" if word == MISSING else word for word in words])

    def take_link(self):
        """Take a link, which may be missing."""
        word = self.take_word()
        if word == "-":
            return ""
        if not is_word(word):
            raise InvalidCommand(f"{word} is no link")
        return word

    def take_flags(self):
        """Take whether a text is bold, and whether it is slant."""
        word = self.take_word()
        if word not in FLAGS:
            raise InvalidCommand(f"{word} is no flags")
        return FLAGS[word]

    def take_feature(self):
        """Take a feature of marks and its value."""
        feature = self.take_word()
        if feature == "link":
            return (feature, self.take_link())
        word = self.take_word()
        if feature not in ("bold", "slant") or word not in VALUES:
            raise InvalidCommand(f"{feature} {word} is no mark")
        return (feature, VALUES[word])

    def take_text(self):
        """Take all behind the words."""
        return self.tail

    def take_characters(self):
        """Take all behind the words, characters alone."""
        if not is_characters(self.tail):
            raise InvalidCommand("not one or more characters")
        return self.tail

    def take_forms(self):
        """Take different names of forms, a tuple."""
        words = self.tail.split(" ")
        if "" in words or len(set(words)) < len(words):
            raise InvalidCommand("no different names of forms")
        return tuple(words)

    def take_offer(self):
        """Take the names of the forms to be offered, or None for all."""
        names = self.take_forms()
        return None if names == ("all",) else names

    def finish(self):
        """Refuse more words."""
        if self.at < len(self.words):
            raise InvalidCommand("there are too many words")


def number_of(word):
    """Return the number that a word writes."""
    if not 1 <= len(word) <= MOST_DIGITS or not all(character in DIGITS for character in word):
        raise InvalidCommand(f"{word} is no number")
    if word[0] == "0" and word != "0":
        raise InvalidCommand(f"{word} has a leading zero")
    return int(word)


def arguments(shape, line):
    """Return the arguments of a command of such a shape, a list."""
    head = line
    text = ""
    if shape != () and shape[-1] in OF_TEXT:
        head, parting, text = line.partition(PARTING)
        if parting == "":
            raise InvalidCommand("the text is missing")
    words = Words(head, text)
    words.take_word()
    told = [words.take(kind) for kind in shape]
    words.finish()
    return told


def edit_of(word, told):
    """Return the edit with this word and these arguments; the number of its document is not among them."""
    if word == "enter":
        line, cell, offset, link, flags, text = told
        return (word, line, cell, offset, text, (link, *flags))
    if word == "mark":
        line, cell, start, end, (feature, value) = told
        return (word, line, cell, start, end, feature, value)
    return (word, *told)


def written_set(features):
    """Return a set of features as it is answered."""
    return "+".join(features) or "nothing"


def listed(rows):
    """Return rows of words and numbers as they are answered."""
    return ", ".join([" ".join([str(part) for part in row]) for row in rows])


def written_made(rows):
    """Return what was made before an end as it is answered; the rows end with certificates."""
    return listed([row[:-1] for row in rows]) or "nothing"


def with_sets(rows):
    """Return rows that end with a set, each with this set as it is answered."""
    return [(*row[:-1], written_set(row[-1])) for row in rows]


def run_bring(desk, program, name, signs):
    """Bring a form."""
    desk.bring(program, (name, *signs))
    return "ok"


def run_supply(desk, program, name, source, target, cost):
    """Supply a maker."""
    desk.supply(program, (name, source, target, cost))
    return "ok"


def run_begin(desk, name):
    """Begin a program."""
    return str(desk.begin(name))


def run_end(desk, program):
    """End a program."""
    return written_made(desk.end(program))


def run_open(desk, program, form, text):
    """Open a document."""
    return str(desk.open_document(program, form, text))


def run_text(desk, document):
    """Answer the text of a document."""
    return desk.text(document)


def run_ask(desk, entry, form):
    """Answer the text of an offered form."""
    return desk.ask(entry, form)


def run_copy(desk, document, selection, offer):
    """Copy what is selected."""
    return str(desk.copy(document, selection, offer, False))


def run_copyonce(desk, document, selection, offer):
    """Copy what is selected, as once."""
    return str(desk.copy(document, selection, offer, True))


def run_offered(desk, entry):
    """Answer what an entry offers."""
    return listed(with_sets(desk.offered(entry)))


def run_can(desk, entry):
    """Answer which forms of an entry can be asked."""
    return ", ".join(desk.can_ask(entry))


def run_paste(desk, entry, document, place, forms):
    """Paste an entry."""
    return desk.paste(entry, list(forms), document, place)


def run_drag(desk, document, selection, _, target, place):
    """Drag what is selected."""
    desk.drag(document, selection, target, place, False)
    return "ok"


def run_move(desk, document, selection, _, target, place):
    """Move what is selected."""
    desk.drag(document, selection, target, place, True)
    return "ok"


def run_programs(desk):
    """Answer the living programs."""
    return listed(desk.living())


def run_documents(desk):
    """Answer the open documents."""
    return listed(desk.open_documents())


def run_makers(desk):
    """Answer the known makers."""
    return listed([(program, *maker) for program, maker in desk.supplied()])


def run_log(desk):
    """Answer what the makers have made."""
    return listed(with_sets(desk.log()))


def run_history(desk):
    """Answer the history."""
    return listed([history_row(entry, is_pinned, is_once) for entry, is_pinned, is_once in desk.history()])


def history_row(entry, is_pinned, is_once):
    """Return the words of an entry of the history."""
    words = [entry]
    if is_pinned:
        words.append("pinned")
    if is_once:
        words.append("once")
    return words


def run_keep(desk):
    """Set a mark."""
    return str(desk.mark())


ACTIONS = {
    "begin": run_begin, "end": run_end, "bring": run_bring, "supply": run_supply, "open": run_open, "text": run_text,
    "ask": run_ask, "copy": run_copy, "copyonce": run_copyonce, "offered": run_offered, "can": run_can,
    "paste": run_paste, "drag": run_drag, "move": run_move, "programs": run_programs, "documents": run_documents,
    "makers": run_makers, "log": run_log, "history": run_history, "keep": run_keep,
}


class Console:
    """A desk, and the commands that are run on it."""

    def __init__(self):
        self.desk = Desk()

    def execute(self, line):
        """Run a command and return its answer."""
        word = line.split(" ")[0]
        if word in EDIT_SHAPES:
            document, *told = arguments(EDIT_SHAPES[word], line)
            self.desk.edit(document, edit_of(word, told))
            return "ok"
        if word not in SHAPES:
            raise InvalidCommand(f"{word} is no command")
        told = arguments(SHAPES[word], line)
        if word in ACTIONS:
            action = ACTIONS[word]
            return action(self.desk, *told)
        self.run_simple(word, told[0])
        return "ok"

    def run_simple(self, word, number):
        """Run a command that has a number and no answer."""
        desk = self.desk
        actions = {
            "crash": desk.crash, "close": desk.close, "undo": desk.undo, "redo": desk.redo, "front": desk.front,
            "pin": desk.pin, "unpin": desk.unpin, "drop": desk.drop, "back": desk.back,
        }
        action = actions[word]
        action(number)
