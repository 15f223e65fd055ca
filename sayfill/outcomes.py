"""Outcomes: to which word each filling of a form leads."""

from sayfill.basics import are_facts, in_tuples, is_number, is_pair, is_row, is_word
from sayfill.errors import BadValue
from sayfill.tables import Table

MOST_OUTCOMES = 30
MOST_WITNESSED = 6
NO_OUTCOME = "none"


def check_outcomes(form, outcomes):
    """Raise an error unless these are outcomes of the form."""
    if not is_row(outcomes) or len(outcomes) > MOST_OUTCOMES:
        raise BadValue(1)
    if not all([is_pair(pair) and are_facts(form.fields(), pair[0]) and is_word(pair[1]) for pair in outcomes]):
        raise BadValue(1)


def check_witnessed(k):
    """Raise an error unless this is a number for which there may be a witness."""
    if not is_number(k) or not 1 <= k <= MOST_WITNESSED:
        raise BadValue(2)


def outcome_of(outcomes, filling):
    """The word of the first pair whose facts the filling fits; all in tuples."""
    for facts, word in outcomes:
        if all([pair in filling for pair in facts]):
            return word
    return NO_OUTCOME


class Endings:
    """All fillings of a form by their outcomes; lots are told as Table tells them."""

    def __init__(self, form, outcomes):
        self.table = Table(form)
        self._lot_of = {}
        kept = in_tuples(outcomes)
        for row in self.table.rows():
            word = outcome_of(kept, row)
            self._lot_of[word] = self._lot_of.get(word, 0) | self.table.fitting(row)

    def is_so(self, lot, word):
        """Whether all fillings of the lot have this outcome."""
        return (lot & self._lot_of.get(word, 0)) == lot

    def word_of(self, lot):
        """The outcome that all fillings of the lot have, or None if there are unlike ones, or no filling."""
        for word in self._lot_of:
            if lot and self.is_so(lot, word):
                return word
        return None

    def first_unlike(self, lot):
        """The first filling of a lot with unlike outcomes, and the first one with another outcome."""
        first = self.table.first(lot)
        alike = self._lot_of[self.word_of(self.table.fitting(first))]
        return (first, self.table.first(lot & ~alike))
