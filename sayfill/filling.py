"""What can stand in a form together with facts: fillings, possible values, clashes."""

from sayfill.basics import are_facts, in_sequence, in_tuples
from sayfill.errors import BadField, BadValue
from sayfill.tables import Table, rows_that_fit


def fillings(form, facts):
    """All fillings that fit the facts, ordered by the values' places."""
    if not are_facts(form.fields(), facts):
        raise BadValue(1)
    return rows_that_fit(form, facts)


def is_filling(form, thing):
    """Whether the thing is a filling of the form."""
    return are_facts(form.fields(), thing) and in_tuples(thing) in rows_that_fit(form, thing)


def possible(form, facts, field):
    """The values that the field has in some filling that fits the facts."""
    rows = fillings(form, facts)
    place = _place(form, field)
    return _values_there(form, rows, place)


def two_ways(form, facts, field):
    """Two fillings that fit and differ in the field, or None."""
    rows = fillings(form, facts)
    place = _place(form, field)
    for row in rows:
        if row[place] != rows[0][place]:
            return (rows[0], row)
    return None


def open_fields(form, facts):
    """The fields with at least two possible values."""
    return tuple([name for name, values in _all_possible(form, facts) if len(values) > 1])


def forced(form, facts):
    """The pairs of the fields with just one possible value."""
    return tuple([(name, values[0]) for name, values in _all_possible(form, facts) if len(values) == 1])


def clash(form, facts):
    """None if some filling fits, otherwise the first least lot of the facts that no filling fits."""
    if not are_facts(form.fields(), facts):
        raise BadValue(1)
    return Table(form).clash(in_sequence(form.fields(), facts))


def _place(form, field):
    """The number of the field."""
    names = [name for name, _ in form.fields()]
    if field not in names:
        raise BadField(field)
    return names.index(field)


def _values_there(form, rows, place):
    """The values, in their sequence, that stand at the place in some of the fillings."""
    name, values = form.fields()[place]
    found = {row[place]: True for row in rows}
    return tuple([value for value in values if (name, value) in found])


def _all_possible(form, facts):
    """Each field's name with its possible values."""
    rows = fillings(form, facts)
    fields = form.fields()
    return [(fields[place][0], _values_there(form, rows, place)) for place in range(len(fields))]
