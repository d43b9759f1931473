"""Makers: the best chains of them, the answers that show these, and the texts that chains make."""

from clipforms.chains import EMPTY_LABEL, NAME, SOURCE, TARGET, carrying, common, is_ascending, is_closed, is_name
from clipforms.chains import least_labels, longer, reached
from clipforms.contents import is_integer, is_word
from clipforms.forms import carried, read, write

MOST_COST = 1000


def is_maker(forms, thing):
    """Return whether any object is a maker between two of the forms."""
    if not isinstance(thing, tuple) or len(thing) != 4:
        return False
    name, source, target, cost = thing
    if not is_word(name) or not is_name(forms, source) or not is_name(forms, target):
        return False
    return source != target and is_integer(cost) and 0 <= cost <= MOST_COST


def made(forms, makers, names, content):
    """Return the text at the end of a chain that begins with the text of a content."""
    chain = chain_of(makers, names)
    text = write(forms[chain[0][SOURCE]], content)
    for maker in chain:
        text = write(forms[maker[TARGET]], read(forms[maker[SOURCE]], text))
    return text


def named(makers):
    """Return a dict from the names of makers to the makers."""
    return {maker[NAME]: maker for maker in makers}


def chain_of(makers, names):
    """Return the list of the makers that have these names, in this order."""
    by_name = named(makers)
    return [by_name[name] for name in names]


def best(forms, makers, source, features, target):
    """Return the answer that shows the best chain, or that there is none, with the least closed sets."""
    closed = reached(makers, (source,))
    if target not in closed:
        return ("none", closed)
    kept = ()
    cuts = []
    for feature in features:
        closed = reached(carrying(forms, makers, (*kept, feature)), (source,))
        if target in closed:
            kept = (*kept, feature)
        else:
            cuts.append((feature, closed))
    labels = least_labels(carrying(forms, makers, kept), (source,))
    rows = tuple([(form, labels[form]) for form in sorted(labels)])
    return ("chain", kept, labels[target][2], tuple(cuts), rows)


def shows_best(forms, makers, source, features, target, answer):
    """Return whether any object is an answer that shows the best chain, or that there is none."""
    if not isinstance(answer, tuple):
        return False
    if len(answer) == 2:
        return answer[0] == "none" and parts(forms, makers, source, target, answer[1])
    if len(answer) != 5 or answer[0] != "chain":
        return False
    _, kept, names, cuts, labels = answer
    if not is_chain(makers, source, target, names):
        return False
    chain = chain_of(makers, names)
    if kept != kept_along(forms, chain, features):
        return False
    if not are_cuts(forms, makers, source, features, target, kept, cuts):
        return False
    if not are_labels(forms, carrying(forms, makers, kept), source, labels):
        return False
    return (target, label_of(chain)) in labels


def parts(forms, makers, source, target, thing):
    """Return whether any object is a closed set that has the source and does not have the target."""
    return is_closed(forms, makers, thing) and source in thing and target not in thing


def is_chain(makers, source, target, thing):
    """Return whether any object is a chain of makers from the source to the target."""
    if not isinstance(thing, tuple):
        return False
    by_name = named(makers)
    at = source
    for name in thing:
        if not is_name(by_name, name) or by_name[name][SOURCE] != at:
            return False
        at = by_name[name][TARGET]
    return at == target


def kept_along(forms, chain, features):
    """Return the features that a chain of makers keeps, of those that its first form carries."""
    kept = features
    for maker in chain:
        kept = common(kept, carried(forms[maker[TARGET]]))
    return kept


def label_of(chain):
    """Return the cost, the number and the names of a chain of makers."""
    label = EMPTY_LABEL
    for maker in chain:
        label = longer(label, maker)
    return label


def are_cuts(forms, makers, source, features, target, kept, thing):
    """Return whether any object is cuts that show for each feature that is not kept why it can't be."""
    sets = sets_not_kept(features, kept)
    if not isinstance(thing, tuple) or len(thing) != len(sets):
        return False
    for wanted, cut in zip(sets, thing):
        if not isinstance(cut, tuple) or len(cut) != 2 or cut[0] != wanted[-1]:
            return False
        if not parts(forms, carrying(forms, makers, wanted), source, target, cut[1]):
            return False
    return True


def sets_not_kept(features, kept):
    """Return for each feature that is not kept the kept ones in front of it, and it."""
    sets = []
    ahead = ()
    for feature in features:
        if feature in kept:
            ahead = (*ahead, feature)
        else:
            sets.append((*ahead, feature))
    return sets


def are_labels(forms, makers, source, thing):
    """Return whether any object is labels, each at most as great as the makers allow."""
    if not isinstance(thing, tuple) or not all(is_label_row(forms, row) for row in thing):
        return False
    if not is_ascending([form for form, _ in thing]):
        return False
    labels = dict(thing)
    if labels.get(source) != EMPTY_LABEL:
        return False
    return all(is_followed(labels, maker) for maker in makers if maker[SOURCE] in labels)


def is_label_row(forms, thing):
    """Return whether any object is a pair of the name of a form and a label."""
    if not isinstance(thing, tuple) or len(thing) != 2 or not is_name(forms, thing[0]):
        return False
    label = thing[1]
    if not isinstance(label, tuple) or len(label) != 3:
        return False
    cost, number, names = label
    if not isinstance(names, tuple) or not all(isinstance(name, str) for name in names):
        return False
    return is_integer(cost) and is_integer(number) and number == len(names)


def is_followed(labels, maker):
    """Return whether the target of a maker has a label that its source's one allows."""
    target = maker[TARGET]
    return target in labels and labels[target] <= longer(labels[maker[SOURCE]], maker)
