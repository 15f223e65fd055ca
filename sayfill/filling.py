"""What can stand in a form together with facts: fillings, possible values, clashes."""

from itertools import combinations

from sayfill.basics import are_facts, in_sequence
from sayfill.errors import BadField, BadValue


def fillings(form, facts):
    """All fillings that fit the facts, ordered by the values' places."""
    if not are_facts(form.fields(), facts):
        raise BadValue(1)
    value_of = dict(facts)
    rows = [()]
    for name, values in form.fields():
        pairs = [(name, value) for value in values if value_of.get(name, value) == value]
        bars = {pair: _bars(form, pair) for pair in pairs}
        rows = [row + (pair,) for row in rows for pair in pairs if not _one_stands(bars[pair], row)]
    return tuple(rows)


def possible(form, facts, field):
    """The values that the field has in some filling that fits the facts."""
    rows = fillings(form, facts)
    place = _place(form, field)
    return _values_there(form, rows, place)


def two_ways(form, facts, field):
    """Two fillings that fit and differ in the field, or None."""
    rows = fillings(form, facts)
    place = _place(form, field)
    for row in rows:
        if row[place] != rows[0][place]:
            return (rows[0], row)
    return None


def open_fields(form, facts):
    """The fields with at least two possible values."""
    return tuple([name for name, values in _all_possible(form, facts) if len(values) > 1])


def forced(form, facts):
    """The pairs of the fields with just one possible value."""
    return tuple([(name, values[0]) for name, values in _all_possible(form, facts) if len(values) == 1])


def clash(form, facts):
    """None if some filling fits, otherwise the first least lot of the facts that no filling fits."""
    if fillings(form, facts):
        return None
    pairs = list(in_sequence(form.fields(), facts))
    for size in range(len(pairs)):
        for lot in combinations(pairs, size):
            if not fillings(form, lot):
                return lot
    return tuple(pairs)


def _bars(form, pair):
    """What keeps the pair out where it stands ahead: the rules that end with the pair, without it."""
    return [rule[:-1] for rule in form.rules() if rule[-1] == pair]


def _one_stands(lots, row):
    """Whether all the pairs of one of the lots stand in the row."""
    for lot in lots:
        if all([pair in row for pair in lot]):
            return True
    return False


def _place(form, field):
    """The number of the field."""
    names = [name for name, _ in form.fields()]
    if field not in names:
        raise BadField(field)
    return names.index(field)


def _values_there(form, rows, place):
    """The values, in their sequence, that stand at the place in some of the fillings."""
    name, values = form.fields()[place]
    found = {row[place]: True for row in rows}
    return tuple([value for value in values if (name, value) in found])


def _all_possible(form, facts):
    """Each field's name with its possible values."""
    rows = fillings(form, facts)
    fields = form.fields()
    return [(fields[place][0], _values_there(form, rows, place)) for place in range(len(fields))]
