"""Where chains of makers lead: closed sets of forms, and the labels of least chains."""

from heapq import heappop, heappush

from clipforms.forms import carried

# Where the parts of a maker stand.
NAME = 0
SOURCE = 1
TARGET = 2
COST = 3
# The label of the empty chain: its cost, its number of makers and their names.
EMPTY_LABEL = (0, 0, ())


def contains(names, others):
    """Return whether a set of features or of forms contains another one."""
    return all(name in names for name in others)


def common(features, others):
    """Return the set of the features that are in both sets."""
    return tuple([feature for feature in features if feature in others])


def carrying(forms, makers, features):
    """Return the list of the makers whose two forms carry all of the features."""
    able = {name: True for name, form in forms.items() if contains(carried(form), features)}
    return [maker for maker in makers if maker[SOURCE] in able and maker[TARGET] in able]


def turned(makers):
    """Return the list of the makers, each with its source and its target exchanged."""
    return [(name, target, source, cost) for name, source, target, cost in makers]


def reached(makers, starts):
    """Return the least closed set that has the starts: the forms to which chains from them lead."""
    found = {form: True for form in starts}
    waiting = list(found)
    while waiting:
        form = waiting.pop()
        for maker in makers:
            if maker[SOURCE] == form and maker[TARGET] not in found:
                found[maker[TARGET]] = True
                waiting.append(maker[TARGET])
    return tuple(sorted(found))


def is_closed(forms, makers, thing):
    """Return whether any object is a closed set: it has with the source of a maker its target."""
    if not isinstance(thing, tuple) or not all(is_name(forms, name) for name in thing):
        return False
    if not is_ascending(thing):
        return False
    return all(maker[TARGET] in thing for maker in makers if maker[SOURCE] in thing)


def is_name(named, thing):
    """Return whether any object is the name of something in a dict."""
    return isinstance(thing, str) and thing in named


def is_ascending(names):
    """Return whether each name is greater than the one in front of it."""
    return all(names[at - 1] < names[at] for at in range(1, len(names)))


def least_labels(makers, starts):
    """Return a dict from the forms that are reached to the labels of the least chains from the starts."""
    labels = {}
    queue = []
    for form in starts:
        heappush(queue, (EMPTY_LABEL, form))
    # A chain is greater than its beginning: no cost is negative, and its number is greater.
    # So the first label that is popped for a form is its least one.
    while queue:
        label, form = heappop(queue)
        if form not in labels:
            labels[form] = label
            for maker in makers:
                if maker[SOURCE] == form:
                    heappush(queue, (longer(label, maker), maker[TARGET]))
    return labels


def longer(label, maker):
    """Return the label of a chain that has one more maker at its end."""
    cost, number, names = label
    return (cost + maker[COST], number + 1, (*names, maker[NAME]))
