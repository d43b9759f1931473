"""Points 3 and 20 to 22: whole histories of entries, with programs that come, end and crash."""

import unittest
from itertools import combinations

from clipforms.contents import keep
from clipforms.ends import crashed, ended, lost_forms, shows_need, to_make
from clipforms.entries import Entry, asked, gives
from clipforms.errors import Gone
from clipforms.forms import write
from tests.samples import FEATURES_OF, SMALL, chains_from, going, led_to, random_graph


def is_given(forms, makers, texts, due, form):
    """Whether one of the texts gives a form, by point 18."""
    starts = [start for start, features in texts if set(due) <= set(features)]
    return form in led_to(going(forms, makers, due), starts)


class Case(unittest.TestCase):
    forms = {}

    def entry(self, makers, own, offer=None):
        return Entry(1, keep(SMALL, FEATURES_OF[own]), own, offer, self.forms, makers)


class AllEnds(Case):
    """Many entries, by the words of points 21 and 22."""

    def lost(self, makers, staying, entry, stays_owned):
        own = ((entry.own, entry.features),) if entry.is_owned else ()
        left = entry.texts + (own if stays_owned else ())
        return [
            form for form, due in entry.dues.items()
            if is_given(self.forms, makers, own + entry.texts, due, form)
            and not is_given(self.forms, staying, left, due, form)
        ]

    def one_gives(self, staying, entry, one, other):
        return is_given(self.forms, staying, [(one, entry.dues[one])], entry.dues[other], other)

    def expected(self, staying, entry, lost):
        """The forms that are made, with their certificates."""
        pairs = []
        for at, form in enumerate(lost):
            givers = [other for other in lost if other != form and self.one_gives(staying, entry, other, form)]
            if all(self.one_gives(staying, entry, form, other) and lost.index(other) > at for other in givers):
                useful = going(self.forms, staying, entry.dues[form])
                closed = [name for name in self.forms if form in led_to(useful, (name,))]
                pairs.append((form, (tuple(sorted(givers + [form])), tuple(sorted(closed)))))
        return tuple(pairs)

    def least_number(self, staying, entry, lost):
        """The least number of forms whose due texts give all lost ones."""
        given = {one: {other for other in lost if self.one_gives(staying, entry, one, other)} for one in lost}
        for number in range(len(lost) + 1):
            for some in combinations(lost, number):
                if set().union(*[given[one] for one in some]) == set(lost):
                    return number

    def test_many_ends(self):
        kinds = set()
        for seed in range(250):
            chooser, self.forms, makers = random_graph(seed)
            own = chooser.choice(sorted(self.forms))
            entry = self.entry(makers, own)
            offer = tuple(chooser.sample(list(entry.dues), chooser.randint(0, len(entry.dues))))
            entry = self.entry(makers, own, offer)
            known = makers
            while known:
                for form in chooser.sample(offer, min(len(offer), chooser.randint(0, 1))):
                    if gives(self.forms, known, entry, form):
                        entry = asked(self.forms, known, entry, form)[2]
                staying = tuple(chooser.sample(known, chooser.randint(0, len(known) - 1)))
                stays_owned = chooser.random() < 0.6
                question = (self.forms, known, staying, entry, stays_owned)
                lost = self.lost(known, staying, entry, stays_owned)
                self.assertEqual(lost_forms(*question), tuple(lost))
                pairs = self.expected(staying, entry, lost)
                self.assertEqual(to_make(*question), pairs)
                self.assertEqual(len(pairs), self.least_number(staying, entry, lost))
                could = [form for form in offer if gives(self.forms, known, entry, form)]
                for form, certificate in pairs:
                    self.assertIs(shows_need(*question, form, certificate), True)
                entry = ended(*question)[1]
                self.assertIs(entry.is_owned, question[3].is_owned and stays_owned)
                self.assertEqual([form for form in offer if gives(self.forms, staying, entry, form)], could)
                self.assertEqual(could, list(offer))
                known = staying
                kinds.add((len(lost), len(pairs), max([len(pair[1][0]) for pair in pairs], default=0)))
        self.assertGreater(len(kinds), 8)
        self.assertGreater(max(kind[2] for kind in kinds), 1)


class MainPromise(Case):
    """Point 3, as far as it speaks of entries: with the makers of programs that come, end and crash."""

    def history(self, seed, with_crashes):
        chooser, self.forms, makers = random_graph(seed)
        own = chooser.choice(sorted(self.forms))
        known = tuple(chooser.sample(makers, chooser.randint(0, len(makers))))
        entry = self.entry(known, own)
        dues, has_crashed, log = dict(entry.dues), False, []
        for _ in range(15):
            step = chooser.random()
            if step < 0.2:
                new = [maker for maker in makers if maker not in known]
                known += tuple(chooser.sample(new, chooser.randint(0, len(new))))
            elif step < 0.4:
                staying = tuple(maker for maker in known if chooser.random() < 0.6)
                stays_owned = chooser.random() < 0.8
                if with_crashes and chooser.random() < 0.5:
                    entry, has_crashed = crashed(entry, stays_owned), True
                else:
                    rows, entry = ended(self.forms, known, staying, entry, stays_owned)
                    log += rows
                known = staying
            else:
                form = chooser.choice(list(entry.dues))
                log += self.look(known, entry, form, has_crashed)
                if gives(self.forms, known, entry, form):
                    entry = asked(self.forms, known, entry, form)[2]
            self.assertEqual(entry.dues, dues)
            self.assertEqual(len({row[1:] for row in log}), len(log))
        return log

    def look(self, known, entry, form, has_crashed):
        """Ask, and look at what comes; return the rows."""
        due = entry.dues[form]
        own = ((entry.own, entry.features),) if entry.is_owned else ()
        starts = [name for name, features in own + entry.texts if set(due) <= set(features)]
        useful = going(self.forms, known, due)
        can = any(end == form for start in starts for end, _ in chains_from(useful, start))
        self.assertIs(gives(self.forms, known, entry, form), can)
        self.assertTrue(can or has_crashed)
        try:
            text, rows, _ = asked(self.forms, known, entry, form)
        except Gone as error:
            self.assertFalse(can)
            self.assertEqual(error.closed, led_to(useful, starts))
            return ()
        self.assertTrue(can)
        self.assertEqual(text, write(self.forms[form], keep(entry.content, due)))
        return rows

    def test_without_crashes(self):
        self.assertGreater(sum(len(self.history(seed, False)) for seed in range(200)), 100)

    def test_with_crashes(self):
        self.assertGreater(sum(len(self.history(seed, True)) for seed in range(200)), 100)
