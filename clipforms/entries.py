"""Entries of the clipboard: what they offer, and the texts that are made when it is asked."""

from clipforms.chains import NAME, SOURCE, TARGET, carrying, common, contains, least_labels, reached
from clipforms.contents import FEATURES, keep, used
from clipforms.errors import Gone, NoForm, NotMakable, NotOffered
from clipforms.forms import carried, write
from clipforms.makers import best, chain_of


class Entry:
    """A content as it was copied, the forms in which it is offered, and the texts that were made."""

    def __init__(self, number, content, own, offer, forms, makers):
        self.number = number
        self.content = content
        self.own = own
        self.features = used(content)
        self.dues = dues_of(forms, makers, own, self.features, offer)
        self.texts = ()
        self.is_owned = True


def dues_of(forms, makers, own, features, offer):
    """Return a dict from the offered forms to the features that the best chains to them keep."""
    offered = reached(makers, (own,)) if offer is None else offer
    for form in offered:
        if form not in forms:
            raise NoForm(f"there is no form {form}")
    dues = {}
    for form in offered:
        answer = best(forms, makers, own, features, form)
        if answer[0] == "none":
            raise NotMakable(form, answer[1])
        dues[form] = answer[1]
    return dues


def behind(entry, texts, is_owned):
    """Return a new entry like this one, with these texts, and with the own text at hand or not."""
    # What the entry knows of its content and its offer is not worked out again.
    later = Entry(entry.number, (), entry.own, (), {}, ())
    later.content = entry.content
    later.features = entry.features
    later.dues = dict(entry.dues)
    later.texts = texts
    later.is_owned = is_owned
    return later


def at_hand(entry):
    """Return the tuple of the texts at hand, in the order in which they are taken."""
    if entry.is_owned:
        return (own_text(entry), *entry.texts)
    return entry.texts


def own_text(entry):
    """Return the form and the set of the own text."""
    return (entry.own, entry.features)


def serving(texts, due):
    """Return the list of the texts whose sets contain what is due."""
    return [text for text in texts if contains(text[1], due)]


def forms_of(texts):
    """Return the list of the forms of the texts."""
    return [form for form, _ in texts]


def gives(forms, makers, entry, form):
    """Return whether a text at hand gives an offered form."""
    due = entry.dues[form]
    return form in reached(carrying(forms, makers, due), forms_of(serving(at_hand(entry), due)))


def asked(forms, makers, entry, form):
    """Return the text of an offered form, rows for the texts that are made, and the entry behind it."""
    if form not in entry.dues:
        raise NotOffered(f"the entry does not offer the form {form}")
    due = entry.dues[form]
    texts = serving(at_hand(entry), due)
    labels = least_labels(carrying(forms, makers, due), forms_of(texts))
    if form not in labels:
        raise Gone(tuple(sorted(labels)))
    chain = chain_of(makers, labels[form][2])
    start = chain[0][SOURCE] if chain else form
    rows = rows_along(forms, chain, first_set(texts, start))
    more = [(target, features) for _, target, features in rows]
    later = behind(entry, (*entry.texts, *more), entry.is_owned)
    return (write(forms[form], keep(entry.content, due)), rows, later)


def first_set(texts, form):
    """Return the set of the first text of a form that has one."""
    return [features for name, features in texts if name == form][0]


def rows_along(forms, chain, features):
    """Return rows (maker, form, set) for what a chain makes of a text with a set of features."""
    rows = []
    left = features
    for maker in chain:
        left = common(left, carried(forms[maker[TARGET]]))
        rows.append((maker[NAME], maker[TARGET], left))
    return tuple(rows)


def worth(features):
    """Return what grows with a set of features in the order of worth."""
    return [feature in features for feature in FEATURES]


def taken(dues, forms, able):
    """Return the form that a paste takes of a list, for a document whose form carries the able features."""
    offered = [form for form in forms if form in dues]
    if not offered:
        raise NotOffered("the entry offers none of the forms")
    return max(offered, key=lambda form: worth(common(dues[form], able)))
