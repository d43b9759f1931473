"""Journals: the deeds of a hall, their lines, and halls that are made again from them."""

from clipforms.console import EDIT_SHAPES, FLAGS, PARTING, SELECTION_NUMBERS, VALUES, arguments, edit_of
from clipforms.contents import WORD_CHARACTERS, is_characters, is_integer, is_marks, is_word
from clipforms.errors import ClipError, InvalidCommand
from clipforms.hall import Hall

MOST_NUMBER = 999999999
MOST_NAME = 40
# The deeds, but edits, and the kinds of what stands in them.
DEED_SHAPES = {
    "desk": ("word",), "link": ("word", "word", "number"), "begin": ("word", "word", "text"),
    "open": ("number", "word", "text"), "copy": ("number", "selection", "offer"), "ask": ("number", "word"),
    "close": ("number",), "drop": ("number",), "end": ("number",), "crash": ("number",), "back": ("number",),
    "unlink": ("word", "word"), "cut": ("word", "word"), "clear": ("word",), "fall": ("word",), "keep": (),
}


def is_deed(thing):
    """Return whether any object is a deed."""
    if not begins_with_word(thing):
        return False
    word, *parts = thing
    if word == "edit":
        return len(parts) == 2 and is_number(parts[0]) and is_edit(parts[1])
    if word not in DEED_SHAPES or len(parts) != len(DEED_SHAPES[word]):
        return False
    return all(is_of_kind(kind, part) for kind, part in zip(DEED_SHAPES[word], parts))


def begins_with_word(thing):
    """Return whether any object is a tuple that begins with a string."""
    return isinstance(thing, tuple) and len(thing) > 0 and isinstance(thing[0], str)


def is_of_kind(kind, thing):
    """Return whether any object is of a kind that stands in deeds."""
    if kind == "word":
        return is_name(thing)
    if kind == "number":
        return is_number(thing)
    if kind == "text":
        return isinstance(thing, str)
    if kind == "selection":
        return is_selection(thing)
    return is_offer(thing)


def is_name(thing):
    """Return whether any object is a name in a deed."""
    if not isinstance(thing, str) or not 1 <= len(thing) <= MOST_NAME:
        return False
    return all(character == "/" or character in WORD_CHARACTERS for character in thing)


def is_number(thing):
    """Return whether any object is a number in a deed."""
    return is_integer(thing) and 0 <= thing <= MOST_NUMBER


def are_numbers(things, many):
    """Return whether a list has so many things, each a number."""
    return len(things) == many and all(is_number(thing) for thing in things)


def is_selection(thing):
    """Return whether any object is a selection in a deed."""
    if not begins_with_word(thing) or thing[0] not in SELECTION_NUMBERS:
        return False
    return are_numbers(thing[1:], SELECTION_NUMBERS[thing[0]])


def is_offer(thing):
    """Return whether any object is an offer in a deed."""
    if thing is None:
        return True
    if not isinstance(thing, tuple) or thing in ((), ("all",)) or not all(is_name(name) for name in thing):
        return False
    return len(set(thing)) == len(thing)


def is_edit(thing):
    """Return whether any object is an edit in a deed."""
    if not begins_with_word(thing) or thing[0] not in EDIT_SHAPES:
        return False
    word, *parts = thing
    if word == "enter":
        return len(parts) == 5 and are_numbers(parts[:3], 3) and is_characters(parts[3]) and is_marks(parts[4])
    if word == "mark":
        return len(parts) == 6 and are_numbers(parts[:4], 4) and is_mark(parts[4], parts[5])
    # The number of the document stands in the shape, but not in the edit.
    return are_numbers(parts, len(EDIT_SHAPES[word]) - 1)


def is_mark(feature, value):
    """Return whether any two objects are a feature of marks and a value of it."""
    if feature == "link":
        return value == "" or is_word(value)
    return feature in ("bold", "slant") and isinstance(value, bool)


def format_deed(deed):
    """Return the line of a deed."""
    word, *parts = deed
    if word == "edit":
        document, edit = parts
        return formatted_edit(document, edit)
    words = [word]
    tail = ""
    for kind, part in zip(DEED_SHAPES[word], parts):
        if kind == "text":
            tail = PARTING + part
        elif kind == "offer":
            tail = PARTING + ("all" if part is None else " ".join(part))
        elif kind == "selection":
            words.extend(part)
        else:
            words.append(part)
    return joined(words) + tail


def joined(words):
    """Return words and numbers with a space between two."""
    return " ".join([str(word) for word in words])


def formatted_edit(document, edit):
    """Return the line of the edit of a document."""
    word, *parts = edit
    if word == "enter":
        line, cell, offset, text, (link, bold, slant) = parts
        marks = [link or "-", sign_of(dict(FLAGS), (bold, slant))]
        return joined([word, document, line, cell, offset, *marks]) + PARTING + text
    if word == "mark":
        *places, feature, value = parts
        written = (value or "-") if feature == "link" else sign_of(dict(VALUES), value)
        return joined([word, document, *places, feature, written])
    return joined([word, document, *parts])


def sign_of(table, value):
    """Return under which word a table has a value."""
    return [word for word, other in table.items() if other == value][0]


def parse_deed(line):
    """Return the deed that a line tells."""
    words = line.split(" ")
    if words[0] in EDIT_SHAPES and not is_cut_of_link(words):
        document, *told = arguments(EDIT_SHAPES[words[0]], line)
        deed = ("edit", document, edit_of(words[0], told))
    elif words[0] in DEED_SHAPES:
        deed = (words[0], *arguments(DEED_SHAPES[words[0]], line))
    else:
        raise InvalidCommand(f"{words[0]} is no deed")
    if not is_deed(deed):
        raise InvalidCommand("a name is none")
    return deed


def is_cut_of_link(words):
    """Return whether the words of a line cut a link, and not a line of a document."""
    return words[0] == "cut" and len(words) == len(DEED_SHAPES["cut"]) + 1


def do(hall, deed):
    """Do a deed in a hall and return what its method returns."""
    word, *parts = deed
    if word == "copy":
        document, selection, offer = parts
        return hall.copy(document, selection, offer)
    if word == "clear":
        return hall.clear(parts[0])
    methods = {
        "desk": hall.set_up, "link": hall.link, "begin": hall.begin, "open": hall.open_document, "edit": hall.edit,
        "ask": hall.ask, "close": hall.close, "drop": hall.drop, "end": hall.end, "crash": hall.crash,
        "back": hall.back, "unlink": hall.unlink, "cut": hall.cut, "fall": hall.fall, "keep": hall.mark,
    }
    method = methods[word]
    return method(*parts)


def replay(journal):
    """Return a hall behind the deeds of a journal."""
    hall = Hall()
    for deed in journal:
        do(hall, deed)
    return hall


def shortened(journal):
    """Return the short form of a journal: without going back, and without what was taken away by this."""
    short = []
    # How long the short form was behind each mark.
    lengths = []
    for deed in journal:
        if deed[0] == "back":
            del lengths[deed[1] + 1:]
            del short[lengths[deed[1]]:]
        else:
            short.append(deed)
            if deed[0] == "keep":
                lengths.append(len(short))
    return short


def first_wrong(journal):
    """Return the index of the first thing of a list that is no deed or is refused; None if there is none."""
    hall = Hall()
    for index, thing in enumerate(journal):
        if not is_done(hall, thing):
            return index
    return None


def is_done(hall, thing):
    """Return whether any object is a deed, and the hall has not refused to do it."""
    if not is_deed(thing):
        return False
    try:
        do(hall, thing)
    except ClipError:
        return False
    return True
