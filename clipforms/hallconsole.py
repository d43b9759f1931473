"""The hall console: a hall that is worked by lines of text, and the journal of what was done in it."""

from clipforms.console import arguments, listed, with_sets, written_made
from clipforms.errors import InvalidCommand
from clipforms.hall import Hall
from clipforms.journals import do, format_deed, parse_deed

# The questions, and the kinds of their arguments.
QUESTION_SHAPES = {
    "text": ("number",), "offered": ("number",), "can": ("number",), "deed": ("number",), "desks": (), "nodes": (),
    "entries": (), "links": (), "programs": (), "makers": (), "documents": (), "log": (),
}


def written_answer(word, answer):
    """Return what doing a deed that begins with a word has returned, as it is answered."""
    if word == "ask":
        return answer
    if word in ("end", "unlink", "clear"):
        return written_made(answer)
    if word in ("begin", "open", "copy", "keep"):
        return str(answer)
    return "ok"


def told_of(hall, word, number):
    """Return the answer to a question about a document or an entry."""
    if word == "text":
        return hall.text(number)
    if word == "offered":
        return listed(with_sets(hall.offered(number)))
    return ", ".join(hall.can_ask(number))


def told(hall, word):
    """Return the answer to a question about the whole hall."""
    if word == "desks":
        return ", ".join(hall.desks())
    if word == "nodes":
        return ", ".join(hall.nodes())
    if word == "entries":
        return ", ".join([str(number) for number in hall.all_entries()])
    if word == "log":
        return listed(with_sets(hall.log()))
    rows = {
        "links": hall.linked, "programs": hall.living, "makers": hall.all_makers, "documents": hall.open_documents,
    }
    teller = rows[word]
    return listed(teller())


class HallConsole:
    """A hall, the commands that are run in it, and the deeds that were done."""

    def __init__(self):
        self.hall = Hall()
        self.deeds = []

    def execute(self, line):
        """Run a command and return its answer."""
        word = line.split(" ")[0]
        if word in QUESTION_SHAPES:
            return self.answer(word, arguments(QUESTION_SHAPES[word], line))
        deed = parse_deed(line)
        done = do(self.hall, deed)
        self.deeds.append(deed)
        return written_answer(word, done)

    def answer(self, word, numbers):
        """Return the answer to a question."""
        if word == "deed":
            return self.line_of(numbers[0])
        if numbers != []:
            return told_of(self.hall, word, numbers[0])
        return told(self.hall, word)

    def line_of(self, number):
        """Return the line of a deed of the journal."""
        if number >= len(self.deeds):
            raise InvalidCommand("there is no such deed in the journal")
        return format_deed(self.deeds[number])

    def journal(self):
        """Return the list of the deeds that were done, in order."""
        return list(self.deeds)
