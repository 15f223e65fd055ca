"""Tables: all fillings of a form, kept so that what stands in them is looked up quickly."""

from itertools import combinations


def rows_that_fit(form, facts):
    """The fillings that fit what surely are facts, ordered by the values' places."""
    value_of = dict(facts)
    rows = [()]
    for name, values in form.fields():
        pairs = [(name, value) for value in values if value_of.get(name, value) == value]
        bars = {pair: _bars(form, pair) for pair in pairs}
        rows = [row + (pair,) for row in rows for pair in pairs if not _one_stands(bars[pair], row)]
    return tuple(rows)


class Table:
    """All fillings of a form, numbered in their order.

    A lot of fillings is told as an integer: for each filling in it, the bit of its number is set.
    """

    def __init__(self, form):
        self._fields = form.fields()
        self._rows = rows_that_fit(form, ())
        self._lot_of = {(name, value): 0 for name, values in self._fields for value in values}
        for number in range(len(self._rows)):
            for pair in self._rows[number]:
                self._lot_of[pair] |= 1 << number

    def rows(self):
        """All the fillings."""
        return self._rows

    def fitting(self, facts):
        """The lot of the fillings that fit the pairs."""
        lot = (1 << len(self._rows)) - 1
        for name, value in facts:
            lot = lot & self._lot_of[(name, value)]
        return lot

    def first(self, lot):
        """The first filling of a lot that is not empty."""
        return self._rows[(lot & -lot).bit_length() - 1]

    def parts(self, lot, field):
        """The values that the field has in the lot, each with the lot of those that have it."""
        values = dict(self._fields)[field]
        parts = [(value, lot & self._lot_of[(field, value)]) for value in values]
        return [(value, part) for value, part in parts if part]

    def open_fields(self, lot):
        """The fields that have at least two values in the lot."""
        return [name for name, _ in self._fields if len(self.parts(lot, name)) > 1]

    def clash(self, facts):
        """None if a filling fits the pairs, otherwise the first least lot of the pairs that none fits.

        The pairs stand in the sequence of the fields.
        """
        if self.fitting(facts):
            return None
        pairs = list(facts)
        for size in range(len(pairs)):
            for lot in combinations(pairs, size):
                if not self.fitting(lot):
                    return lot
        return tuple(pairs)


def _bars(form, pair):
    """What keeps the pair out where it stands ahead: the rules that end with the pair, without it."""
    return [rule[:-1] for rule in form.rules() if rule[-1] == pair]


def _one_stands(lots, row):
    """Whether all the pairs of one of the lots stand in the row."""
    for lot in lots:
        if all([pair in row for pair in lot]):
            return True
    return False
