"""What several tests need: contents, forms, makers, objects of all kinds, and changes of objects."""

import random
from itertools import product

NO = ("", False, False)
LINK = ("w1", False, False)
BOLD = ("", True, False)
SLANT = ("", False, True)
ALL = ("w1", True, True)
ALL_FEATURES = ("cells", "nest", "link", "bold", "slant")
ALL_MARKS = list(product(["", "a", "b2"], [False, True], [False, True]))

PLAIN = ("plain", "", "", "", "", "", "", "", "")
FULL = ("full", "|", ">", "*", "_", "[", ":", "]", "!")
# One form for each feature, which carries it alone.
ALONE = {
    "cells": ("one", "|", "", "", "", "", "", "", "!"),
    "nest": ("one", "", ">", "", "", "", "", "", "!"),
    "bold": ("one", "", "", "*", "", "", "", "", "!"),
    "slant": ("one", "", "", "", "_", "", "", "", "!"),
    "link": ("one", "", "", "", "", "[", ":", "]", "!"),
}
FEATURE_SIGNS = {"cells": (1,), "nest": (2,), "bold": (3,), "slant": (4,), "link": (5, 6, 7)}


def cell(*pieces):
    """A cell of texts, without marks, and of pairs of a text and marks."""
    return tuple((piece, NO) if isinstance(piece, str) else piece for piece in pieces)


def one_line(*cells):
    """A content of one line."""
    return ((0, cells),)


RICH = (
    (0, (cell("ab", ("c", BOLD), ("d", LINK)), cell(), cell(("e", ALL), ("f", SLANT), "g"))),
    (3, (cell(("x", ("w1", True, False)), ("y", ("w2", True, False)), ("z", ("w2", False, False))),)),
    (6, (cell(), cell())),
    (0, (cell(),)),
    (1, (cell("*_[]:!|>", ("*_[]:!|>", ALL), ("a >", SLANT)), cell(("k", BOLD)), cell(("l", BOLD)))),
)

# Contents that use each feature alone, and one that uses none.
USE_ALONE = {
    (): one_line(cell("a b")),
    ("cells",): one_line(cell("a"), cell("b")),
    ("nest",): ((1, (cell("a"),)),),
    ("link",): one_line(cell(("a", LINK))),
    ("bold",): one_line(cell(("a", BOLD))),
    ("slant",): one_line(cell("b", ("a", SLANT))),
}


def form_carrying(features):
    """A form that carries these features alone."""
    form = ["part"] + [""] * 8
    for feature in features:
        for at in FEATURE_SIGNS[feature]:
            form[at] = FULL[at]
    if features:
        form[8] = "!"
    return tuple(form)


def feature_sets():
    """All sets of features."""
    for takes in product([False, True], repeat=5):
        yield tuple(feature for feature, take in zip(ALL_FEATURES, takes) if take)


def many_contents():
    """Contents of all kinds, the largest ones too."""
    yield RICH
    yield from USE_ALONE.values()
    yield one_line(cell())
    yield ((0, (cell(),)),) * 200
    yield ((6, (cell("x" * 40),) * 12),) * 2
    yield one_line(cell("|" * 491))
    yield one_line(cell("|" * 40), cell("!" * 40))
    yield one_line(cell("".join(chr(code) for code in range(32, 127))))
    for first, second, third in product(ALL_MARKS, ALL_MARKS[:6:5], ALL_MARKS):
        if first != second and second != third:
            yield one_line(cell(("p", first), (">q", second), ("r", third)))


def nested(depth, shell):
    """An object that is nested so deep."""
    thing = 0
    for _ in range(depth):
        thing = shell(thing)
    return thing


def objects_of_all_kinds():
    """Objects that are no content, no word and no form."""
    return [
        0, 1, -1, 10 ** 30 - 1, 1 - 10 ** 30, True, False, None, "", " ", "A", "a b", "a\n", "\t", "~", "a" * 200000,
        (), [], {}, (0,), [0], {0: 0}, {"a": 1}, {(1, 2): [3]}, (None,), ("",), ("a",), ("a", "b"), (1, ((),)),
        ((),), ((), ()), (((),),), ([],), [[]], ({},), [()], (0, ()), ((0,),), ((0, ()),), ((0, 0),), (("a", "b"),),
        ((None, None),), (({}, []),), ((0, ((), 0)),), ((0, (("a", NO),)),), ((0, ((("a",),),)),), (NO,), NO,
        ["a"] * 9, ("a",) * 9, (0,) * 9, (None,) * 9, ("",) * 9, ((),) * 9, "a" * 13, "abcdefghi!",
        nested(30, lambda thing: (thing,)), nested(30, lambda thing: [thing]), nested(30, lambda thing: {1: thing}),
        [0] * 4999, ((),) * 4999, {number: None for number in range(2000)}, (1, [2, {"a": (3, None)}], "b"),
    ]


# A content that uses all features.
SMALL = (
    (1, (cell("a", ("b", ("w1", True, True))), cell(("c", SLANT), ("d", BOLD), "*|!"))),
    (0, (cell(),)),
)
# Forms under their names, for makers: each with the features that it carries.
FEATURES_OF = {
    "plain": (), "full": ALL_FEATURES, "all": ALL_FEATURES, "cell": ("cells",), "tree": ("nest", "link"),
    "star": ("bold",), "dot": ("bold",), "page": ("cells", "bold", "slant"), "note": ("nest", "link", "bold"),
}


def forms_named(*names):
    """A dict of forms from their names, plain among them."""
    return {name: (name,) + form_carrying(FEATURES_OF[name])[1:] for name in ("plain",) + names}


def is_carried(forms, name, features):
    """Whether a form carries all of the features."""
    return all(forms[name][FEATURE_SIGNS[feature][0]] != "" for feature in features)


def going(forms, makers, features):
    """The makers whose two forms carry all of the features."""
    return [maker for maker in makers if all(is_carried(forms, name, features) for name in maker[1:3])]


def chains_from(makers, start, ahead=()):
    """All chains that come to no form twice, as pairs of their last form and their makers."""
    yield start, ahead
    for maker in makers:
        if maker[1] == start and all(maker[2] not in other[1:3] for other in ahead):
            yield from chains_from(makers, maker[2], ahead + (maker,))


def label(chain):
    """The cost, the number and the names of a chain."""
    return (sum(maker[3] for maker in chain), len(chain), tuple(maker[0] for maker in chain))


def led_to(makers, starts):
    """The ascending tuple of the forms to which chains lead from one of the starts."""
    return tuple(sorted({end for start in starts for end, _ in chains_from(makers, start)}))


def random_graph(seed, most_forms=6, most_makers=9):
    """Forms and makers that come from a number: with many ties, and with makers to and fro."""
    chooser = random.Random(seed)
    names = chooser.sample(sorted(FEATURES_OF), chooser.randint(2, most_forms))
    forms = forms_named(*names)
    words = chooser.sample(["a", "b", "c1", "d", "ee", "f", "g0", "0", "zz", "k"], chooser.randint(0, most_makers))
    makers = []
    for word in words:
        source, target = chooser.sample(sorted(forms), 2)
        makers.append((word, source, target, chooser.choice([0, 0, 1, 1, 2, 1000])))
    return chooser, forms, tuple(makers)


def all_changes(thing, others):
    """All objects like this one with one thing changed at one place, in it or of it."""
    for other in others:
        yield other
    if isinstance(thing, str):
        yield from (thing + "x", thing[:-1], thing.upper() + " ", (thing,))
    elif isinstance(thing, bool):
        yield from (not thing, int(thing))
    elif isinstance(thing, int):
        yield from (thing + 1, thing - 1, -thing - 5, thing == 1, str(thing))
    elif isinstance(thing, tuple):
        yield from (list(thing), thing[::-1], thing + thing[-1:], thing + (thing,), (thing,))
        for at, part in enumerate(thing):
            yield thing[:at] + thing[at + 1:]
            yield thing[:at] + (part,) + thing[at:]
            for change in all_changes(part, others):
                yield thing[:at] + (change,) + thing[at + 1:]


def state(entry):
    """All fields of an entry, and the order of its offer."""
    fields = ("number", "content", "own", "features", "dues", "texts", "is_owned")
    return [getattr(entry, field) for field in fields] + [list(entry.dues)]


def loose(content):
    """A content as lists: of lines, of cells, of characters with their marks."""
    return [[depth, [[(char, marks) for text, marks in cell for char in text] for cell in cells]]
            for depth, cells in content]


def tight(lines):
    """The content of such lists."""
    return tuple((depth, tuple(tight_cell(cell) for cell in cells)) for depth, cells in lines)


def tight_cell(chars):
    """The cell of characters with their marks."""
    pieces = []
    for char, marks in chars:
        if pieces and pieces[-1][1] == marks:
            pieces[-1] = (pieces[-1][0] + char, marks)
        else:
            pieces.append((char, marks))
    return tuple(pieces)


def inside(thing):
    """All that an object is made of, own objects by their fields: to see whether anything changed."""
    if isinstance(thing, (list, tuple)):
        return [type(thing).__name__] + [inside(part) for part in thing]
    if isinstance(thing, dict):
        return ["dict"] + [(key, inside(part)) for key, part in thing.items()]
    if hasattr(thing, "__dict__"):
        return [type(thing).__name__, inside(vars(thing))]
    return thing
