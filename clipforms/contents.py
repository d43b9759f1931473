"""Contents: lines of cells of pieces of marked text, and the features that they use."""

# In their order of worth.
FEATURES = ("cells", "nest", "link", "bold", "slant")
NO_MARKS = ("", False, False)
DIGITS = "0123456789"
WORD_CHARACTERS = "abcdefghijklmnopqrstuvwxyz0123456789"
MOST_WORD_CHARACTERS = 12
MOST_LINES = 200
MOST_DEPTH = 6
MOST_CELLS = 12
MOST_CELL_CHARACTERS = 40
# Twelve cells of forty characters with a space between two: no line grows too long
# when its cells become one.
MOST_ONLY_CELL_CHARACTERS = 491


def is_content(thing):
    """Return whether any object is a content."""
    if not isinstance(thing, tuple) or not 1 <= len(thing) <= MOST_LINES:
        return False
    return all(is_line(line) for line in thing)


def is_word(thing):
    """Return whether any object is a word."""
    if not isinstance(thing, str) or not 1 <= len(thing) <= MOST_WORD_CHARACTERS:
        return False
    return all(character in WORD_CHARACTERS for character in thing)


def is_integer(thing):
    """Return whether any object is an integer; True and False are none."""
    return isinstance(thing, int) and not isinstance(thing, bool)


def is_line(thing):
    """Return whether any object is a line of a content."""
    if not isinstance(thing, tuple) or len(thing) != 2:
        return False
    depth, cells = thing
    if not is_integer(depth) or not 0 <= depth <= MOST_DEPTH:
        return False
    if not isinstance(cells, tuple) or not 1 <= len(cells) <= MOST_CELLS:
        return False
    most = MOST_ONLY_CELL_CHARACTERS if len(cells) == 1 else MOST_CELL_CHARACTERS
    return all(is_cell(cell, most) for cell in cells)


def is_cell(thing, most):
    """Return whether any object is a cell of at most so many characters."""
    if not isinstance(thing, tuple) or not all(is_piece(piece) for piece in thing):
        return False
    for at in range(1, len(thing)):
        if thing[at - 1][1] == thing[at][1]:
            return False
    return sum(len(text) for text, _ in thing) <= most


def is_piece(thing):
    """Return whether any object is a piece."""
    if not isinstance(thing, tuple) or len(thing) != 2:
        return False
    text, marks = thing
    return is_characters(text) and is_marks(marks)


def is_characters(thing):
    """Return whether any object is a text of one or more characters, and of nothing else."""
    if not isinstance(thing, str) or thing == "":
        return False
    return all(" " <= character <= "~" for character in thing)


def is_marks(thing):
    """Return whether any object is marks."""
    if not isinstance(thing, tuple) or len(thing) != 3:
        return False
    link, bold, slant = thing
    if link != "" and not is_word(link):
        return False
    return isinstance(bold, bool) and isinstance(slant, bool)


def drop(content, feature):
    """Return the content without a feature."""
    if feature == "cells":
        return tuple([(depth, (one_cell(cells),)) for depth, cells in content])
    if feature == "nest":
        return tuple([(0, cells) for _, cells in content])
    return tuple([(depth, unmarked_cells(cells, feature)) for depth, cells in content])


def keep(content, features):
    """Return the content without the features that are not in the set."""
    kept = content
    for feature in FEATURES:
        if feature not in features:
            kept = drop(kept, feature)
    return kept


def used(content):
    """Return the set of the features that the content uses."""
    return tuple([feature for feature in FEATURES if drop(content, feature) != content])


def one_cell(cells):
    """Return one cell of all the cells, with a space without marks between two."""
    pieces = list(cells[0])
    for cell in cells[1:]:
        pieces.append((" ", NO_MARKS))
        pieces.extend(cell)
    return merged(pieces)


def unmarked_cells(cells, feature):
    """Return the cells without a feature of marks."""
    return tuple([unmarked_cell(cell, feature) for cell in cells])


def unmarked_cell(cell, feature):
    """Return the cell without a feature of marks."""
    return merged([(text, unmarked(marks, feature)) for text, marks in cell])


def unmarked(marks, feature):
    """Return the marks without one of them."""
    link, bold, slant = marks
    if feature == "link":
        return ("", bold, slant)
    if feature == "bold":
        return (link, False, slant)
    return (link, bold, False)


def merged(pieces):
    """Return the cell of the pieces: neighbours with equal marks become one."""
    cell = []
    for text, marks in pieces:
        if cell and cell[-1][1] == marks:
            cell[-1] = (cell[-1][0] + text, marks)
        else:
            cell.append((text, marks))
    return tuple(cell)
