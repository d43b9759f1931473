"""Ends of programs: which offered forms are made before them, and why no fewer would do."""

from clipforms.chains import carrying, contains, is_closed, reached, turned
from clipforms.entries import asked, at_hand, behind, forms_of, gives, own_text, serving


def lost_forms(forms, makers, staying, entry, stays_owned):
    """Return the tuple of the offered forms that are given now, but not by what stays."""
    later = crashed(entry, stays_owned)
    now = [form for form in entry.dues if gives(forms, makers, entry, form)]
    return tuple([form for form in now if not gives(forms, staying, later, form)])


def to_make(forms, makers, staying, entry, stays_owned):
    """Return the tuple of (form, certificate) for the forms that are made before the end."""
    lost = lost_forms(forms, makers, staying, entry, stays_owned)
    givers = givers_of(forms, staying, entry, lost)
    pairs = []
    for form in lost:
        if is_to_make(givers, form):
            pairs.append((form, (class_of(givers, form), sources_of(forms, staying, entry, form))))
    return tuple(pairs)


def shows_need(forms, makers, staying, entry, stays_owned, form, certificate):
    """Return whether any object is a certificate for a lost form."""
    lost = lost_forms(forms, makers, staying, entry, stays_owned)
    if form not in lost or not isinstance(certificate, tuple) or len(certificate) != 2:
        return False
    group, closed = certificate
    if group != class_of(givers_of(forms, staying, entry, lost), form):
        return False
    due = entry.dues[form]
    if not is_closed(forms, turned(carrying(forms, staying, due)), closed):
        return False
    if not contains(closed, group):
        return False
    others = [name for name in lost if name not in group and contains(entry.dues[name], due)]
    left = forms_of(serving(at_hand(crashed(entry, stays_owned)), due))
    return not any(name in closed for name in others + left)


def ended(forms, makers, staying, entry, stays_owned):
    """Return rows for what is made before the end, and the entry behind it."""
    rows = ()
    later = entry
    for form, _ in to_make(forms, makers, staying, entry, stays_owned):
        is_own = later.is_owned and form == later.own
        _, more, later = asked(forms, makers, later, form)
        rows = (*rows, *more)
        if is_own:
            later = behind(later, (*later.texts, own_text(later)), later.is_owned)
    return (rows, crashed(later, stays_owned))


def crashed(entry, stays_owned):
    """Return the entry behind a crash."""
    # An own text that is gone already does not come back.
    return behind(entry, entry.texts, entry.is_owned and stays_owned)


def sources_of(forms, staying, entry, form):
    """Return the least closed set of the forms whose texts would give a form."""
    return reached(turned(carrying(forms, staying, entry.dues[form])), (form,))


def givers_of(forms, staying, entry, lost):
    """Return a dict from the lost forms to the lists of the lost forms that give them, in the order of the offer."""
    givers = {}
    for form in lost:
        sources = sources_of(forms, staying, entry, form)
        due = entry.dues[form]
        givers[form] = [name for name in lost if name in sources and contains(entry.dues[name], due)]
    return givers


def class_of(givers, form):
    """Return the ascending tuple of the lost forms that give a form and are given by it."""
    return tuple(sorted([name for name in givers[form] if form in givers[name]]))


def is_to_make(givers, form):
    """Return whether each other lost form that gives a form is given by it and stands later in the offer."""
    return givers[form][0] == form and all(form in givers[name] for name in givers[form])
