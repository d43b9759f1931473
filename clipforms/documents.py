"""Documents: edits of contents, selections, places into which contents are put, and what can be undone."""

from clipforms.contents import is_content, merged, used
from clipforms.errors import EditedSince, NoPlace, NotCarried, NothingToUndo, TooLarge
from clipforms.forms import carried

EMPTY_LINE = (0, ((),))
MOST_STEPS = 50


def line_at(content, line):
    """Return a line of a content; raise NoPlace if it is not there."""
    if not 0 <= line < len(content):
        raise NoPlace(f"there is no line {line}")
    return content[line]


def cell_at(content, line, cell):
    """Return a cell of a line; raise NoPlace if it is not there."""
    _, cells = line_at(content, line)
    if not 0 <= cell < len(cells):
        raise NoPlace(f"there is no cell {cell} in line {line}")
    return cells[cell]


def size_of(cell):
    """Return how many characters a cell has."""
    return sum(len(text) for text, _ in cell)


def halves(cell, offset):
    """Return the pieces of a cell in front of an offset, and those behind it."""
    left = []
    right = []
    before = 0
    for text, marks in cell:
        at = min(max(offset - before, 0), len(text))
        if at > 0:
            left.append((text[:at], marks))
        if at < len(text):
            right.append((text[at:], marks))
        before += len(text)
    return (left, right)


def halves_at(content, line, cell, offset):
    """Return the pieces in front of a place and those behind it, in its cell; raise NoPlace if it is not there."""
    pieces = cell_at(content, line, cell)
    if not 0 <= offset <= size_of(pieces):
        raise NoPlace(f"there is no offset {offset} in cell {cell} of line {line}")
    return halves(pieces, offset)


def thirds_at(content, line, cell, start, end):
    """Return the pieces in front of a range, those in it and those behind it; raise NoPlace if it is not there."""
    pieces = cell_at(content, line, cell)
    if not 0 <= start < end <= size_of(pieces):
        raise NoPlace(f"there is no range {start} {end} in cell {cell} of line {line}")
    left, rest = halves(pieces, start)
    middle, right = halves(rest, end - start)
    return (left, middle, right)


def need_lines(content, first, last):
    """Raise NoPlace if the lines from the first to the last one are not there."""
    if not 0 <= first <= last < len(content):
        raise NoPlace(f"there are no lines {first} to {last}")


def with_lines(content, start, end, lines):
    """Return the content with lines in the place of those from start to end, without the one at end."""
    return (*content[:start], *lines, *content[end:])


def with_cells(content, line, cells):
    """Return the content with other cells in a line."""
    depth, _ = content[line]
    return with_lines(content, line, line + 1, ((depth, tuple(cells)),))


def with_pieces(content, line, cell, pieces):
    """Return the content with other pieces in a cell."""
    _, cells = content[line]
    return with_cells(content, line, (*cells[:cell], merged(pieces), *cells[cell + 1:]))


def entered(content, line, cell, offset, text, marks):
    """Return the content with a text with these marks in front of the offset."""
    left, right = halves_at(content, line, cell, offset)
    return with_pieces(content, line, cell, [*left, (text, marks), *right])


def erased(content, line, cell, start, end):
    """Return the content without the characters of a range."""
    left, _, right = thirds_at(content, line, cell, start, end)
    return with_pieces(content, line, cell, left + right)


def marked(content, line, cell, start, end, feature, value):
    """Return the content with another mark at the characters of a range."""
    left, middle, right = thirds_at(content, line, cell, start, end)
    changed = [(text, with_mark(marks, feature, value)) for text, marks in middle]
    return with_pieces(content, line, cell, left + changed + right)


def with_mark(marks, feature, value):
    """Return the marks with another value of one of them."""
    link, bold, slant = marks
    if feature == "link":
        return (value, bold, slant)
    if feature == "bold":
        return (link, value, slant)
    return (link, bold, value)


def cut(content, line, cell, offset):
    """Return the content with a new line of what is behind the offset in the cell, and of the later cells."""
    left, right = halves_at(content, line, cell, offset)
    depth, cells = content[line]
    first = (depth, (*cells[:cell], tuple(left)))
    second = (depth, (tuple(right), *cells[cell + 1:]))
    return with_lines(content, line, line + 1, (first, second))


def glued(content, line):
    """Return the content with one line of a line and the next one."""
    depth, cells = line_at(content, line)
    _, others = line_at(content, line + 1)
    joint = merged([*cells[-1], *others[0]])
    return with_lines(content, line, line + 2, ((depth, (*cells[:-1], joint, *others[1:])),))


def with_depth(content, line, depth):
    """Return the content with another depth of a line."""
    _, cells = line_at(content, line)
    return with_lines(content, line, line + 1, ((depth, cells),))


def widened(content, line, cell):
    """Return the content with an empty cell in front of a cell, or at the end of its line."""
    _, cells = line_at(content, line)
    if not 0 <= cell <= len(cells):
        raise NoPlace(f"there is no place {cell} for a cell in line {line}")
    return with_cells(content, line, (*cells[:cell], (), *cells[cell:]))


def narrowed(content, line, cell):
    """Return the content without a cell of a line that has more than one."""
    cell_at(content, line, cell)
    _, cells = content[line]
    if len(cells) == 1:
        raise NoPlace(f"line {line} has no more than one cell")
    return with_cells(content, line, (*cells[:cell], *cells[cell + 1:]))


def inserted(content, line, lines):
    """Return the content with lines in front of a line, or at the end."""
    if not 0 <= line <= len(content):
        raise NoPlace(f"there is no place for lines in front of line {line}")
    return with_lines(content, line, line, lines)


def deleted(content, first, last):
    """Return the content without the lines from the first to the last one."""
    need_lines(content, first, last)
    left = with_lines(content, first, last + 1, ())
    if left == ():
        return (EMPTY_LINE,)
    return left


EDITS = {
    "enter": entered, "erase": erased, "mark": marked, "cut": cut, "glue": glued, "depth": with_depth,
    "widen": widened, "narrow": narrowed, "insert": inserted, "delete": deleted,
}


def edited(form, content, edit):
    """Return the content of a document in a form behind an edit."""
    change = EDITS[edit[0]]
    places = edit[1:]
    return checked(form, change(content, *places))


def checked(form, content):
    """Return what a document in a form shall contain, if it is a content that the form can carry."""
    if not is_content(content):
        raise TooLarge("the result is no content")
    able = carried(form)
    for feature in used(content):
        if feature not in able:
            raise NotCarried(feature)
    return content


def selected(content, selection):
    """Return the selected content."""
    if selection[0] == "lines":
        _, first, last = selection
        need_lines(content, first, last)
        return content[first:last + 1]
    _, line, cell, start, end = selection
    _, middle, _ = thirds_at(content, line, cell, start, end)
    return ((0, (tuple(middle),)),)


def unselected(content, selection):
    """Return the content without what is selected."""
    if selection[0] == "lines":
        _, first, last = selection
        return deleted(content, first, last)
    _, line, cell, start, end = selection
    return erased(content, line, cell, start, end)


def put(form, content, place, more):
    """Return the content of a document in a form with a content more put into a place."""
    line, cell, offset = place
    left, right = halves_at(content, line, cell, offset)
    depth, _ = content[line]
    if len(more) == 1 and len(more[0][1]) == 1:
        return with_pieces(content, line, cell, [*left, *more[0][1][0], *right])
    raised = depth if "nest" in carried(form) else 0
    lines = [(other + raised, cells) for other, cells in more]
    return with_lines(content, line + 1, line + 1, lines)


def moved_within(form, content, selection, place):
    """Return the content of a document in a form behind a move within it; the place is one before the move."""
    more = selected(content, selection)
    line, cell, offset = place
    halves_at(content, line, cell, offset)
    if is_selected(selection, place):
        raise NoPlace("the place is within what is moved")
    return put(form, unselected(content, selection), place_behind(selection, place), more)


def is_selected(selection, place):
    """Return whether a place is within what is selected: in a line of it, or between two characters of it."""
    if selection[0] == "lines":
        _, first, last = selection
        return first <= place[0] <= last
    _, line, cell, start, end = selection
    return place[:2] == (line, cell) and start < place[2] < end


def place_behind(selection, place):
    """Return where a place is when what is selected has been removed."""
    at, within, offset = place
    if selection[0] == "lines":
        _, first, last = selection
        return (at - (last - first + 1), within, offset) if at > last else place
    _, line, cell, start, end = selection
    if (at, within) == (line, cell) and offset >= end:
        return (at, within, offset - (end - start))
    return place


class Document:
    """A document at one moment; each change of it makes a new one.

    done has what can be undone, as (step, documents of the step, content before it), the last one last;
    undone has what can be redone, as (step, documents of the step, content behind it), the next one last.
    """

    def __init__(self, program, form, content, done, undone):
        self.program = program
        self.form = form
        self.content = content
        self.done = done
        self.undone = undone


def with_content(document, step, numbers, content):
    """Return a document behind a step that gives it another content."""
    done = (*document.done, (step, numbers, document.content))
    return Document(document.program, document.form, content, done[-MOST_STEPS:], ())


def turned_round(document):
    """Return a document in which what can be undone and what can be redone are exchanged."""
    return Document(document.program, document.form, document.content, document.undone, document.done)


def stepped_back(document):
    """Return a document in which its last step is undone."""
    step, numbers, content = document.done[-1]
    undone = (*document.undone, (step, numbers, document.content))
    return Document(document.program, document.form, content, document.done[:-1], undone)


def is_last(documents, number, step):
    """Return whether a step is the last one of an open document that can be undone."""
    return number in documents and documents[number].done != () and documents[number].done[-1][0] == step


def behind_undo(documents, number):
    """Return a dict of the documents that change when the last step of one is undone, as they are then."""
    if documents[number].done == ():
        raise NothingToUndo(f"document {number} has no such edit")
    step, numbers, _ = documents[number].done[-1]
    for other in numbers:
        if not is_last(documents, other, step):
            raise EditedSince(f"document {other} was edited since, or is closed")
    return {other: stepped_back(documents[other]) for other in numbers}


def behind_redo(documents, number):
    """Return a dict of the documents that change when the next step of one is redone, as they are then."""
    turned = {other: turned_round(document) for other, document in documents.items()}
    changed = behind_undo(turned, number)
    return {other: turned_round(document) for other, document in changed.items()}
