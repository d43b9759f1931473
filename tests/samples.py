"""What several tests need: contents, forms, and objects of all kinds."""

from itertools import product

NO = ("", False, False)
LINK = ("w1", False, False)
BOLD = ("", True, False)
SLANT = ("", False, True)
ALL = ("w1", True, True)
ALL_FEATURES = ("cells", "nest", "link", "bold", "slant")
ALL_MARKS = list(product(["", "a", "b2"], [False, True], [False, True]))

PLAIN = ("plain", "", "", "", "", "", "", "", "")
FULL = ("full", "|", ">", "*", "_", "[", ":", "]", "!")
# One form for each feature, which carries it alone.
ALONE = {
    "cells": ("one", "|", "", "", "", "", "", "", "!"),
    "nest": ("one", "", ">", "", "", "", "", "", "!"),
    "bold": ("one", "", "", "*", "", "", "", "", "!"),
    "slant": ("one", "", "", "", "_", "", "", "", "!"),
    "link": ("one", "", "", "", "", "[", ":", "]", "!"),
}
FEATURE_SIGNS = {"cells": (1,), "nest": (2,), "bold": (3,), "slant": (4,), "link": (5, 6, 7)}


def cell(*pieces):
    """A cell of texts, without marks, and of pairs of a text and marks."""
    return tuple((piece, NO) if isinstance(piece, str) else piece for piece in pieces)


def one_line(*cells):
    """A content of one line."""
    return ((0, cells),)


RICH = (
    (0, (cell("ab", ("c", BOLD), ("d", LINK)), cell(), cell(("e", ALL), ("f", SLANT), "g"))),
    (3, (cell(("x", ("w1", True, False)), ("y", ("w2", True, False)), ("z", ("w2", False, False))),)),
    (6, (cell(), cell())),
    (0, (cell(),)),
    (1, (cell("*_[]:!|>", ("*_[]:!|>", ALL), ("a >", SLANT)), cell(("k", BOLD)), cell(("l", BOLD)))),
)

# Contents that use each feature alone, and one that uses none.
USE_ALONE = {
    (): one_line(cell("a b")),
    ("cells",): one_line(cell("a"), cell("b")),
    ("nest",): ((1, (cell("a"),)),),
    ("link",): one_line(cell(("a", LINK))),
    ("bold",): one_line(cell(("a", BOLD))),
    ("slant",): one_line(cell("b", ("a", SLANT))),
}


def form_carrying(features):
    """A form that carries these features alone."""
    form = ["part"] + [""] * 8
    for feature in features:
        for at in FEATURE_SIGNS[feature]:
            form[at] = FULL[at]
    if features:
        form[8] = "!"
    return tuple(form)


def feature_sets():
    """All sets of features."""
    for takes in product([False, True], repeat=5):
        yield tuple(feature for feature, take in zip(ALL_FEATURES, takes) if take)


def many_contents():
    """Contents of all kinds, the largest ones too."""
    yield RICH
    yield from USE_ALONE.values()
    yield one_line(cell())
    yield ((0, (cell(),)),) * 200
    yield ((6, (cell("x" * 40),) * 12),) * 2
    yield one_line(cell("|" * 491))
    yield one_line(cell("|" * 40), cell("!" * 40))
    yield one_line(cell("".join(chr(code) for code in range(32, 127))))
    for first, second, third in product(ALL_MARKS, ALL_MARKS[:6:5], ALL_MARKS):
        if first != second and second != third:
            yield one_line(cell(("p", first), (">q", second), ("r", third)))


def nested(depth, shell):
    """An object that is nested so deep."""
    thing = 0
    for _ in range(depth):
        thing = shell(thing)
    return thing


def objects_of_all_kinds():
    """Objects that are no content, no word and no form."""
    return [
        0, 1, -1, 10 ** 30 - 1, 1 - 10 ** 30, True, False, None, "", " ", "A", "a b", "a\n", "\t", "~", "a" * 200000,
        (), [], {}, (0,), [0], {0: 0}, {"a": 1}, {(1, 2): [3]}, (None,), ("",), ("a",), ("a", "b"), (1, ((),)),
        ((),), ((), ()), (((),),), ([],), [[]], ({},), [()], (0, ()), ((0,),), ((0, ()),), ((0, 0),), (("a", "b"),),
        ((None, None),), (({}, []),), ((0, ((), 0)),), ((0, (("a", NO),)),), ((0, ((("a",),),)),), (NO,), NO,
        ["a"] * 9, ("a",) * 9, (0,) * 9, (None,) * 9, ("",) * 9, ((),) * 9, "a" * 13, "abcdefghi!",
        nested(30, lambda thing: (thing,)), nested(30, lambda thing: [thing]), nested(30, lambda thing: {1: thing}),
        [0] * 4999, ((),) * 4999, {number: None for number in range(2000)}, (1, [2, {"a": (3, None)}], "b"),
    ]
