"""Forms: fields with some values each, and rules that say which values cannot stand together."""

from sayfill.basics import are_facts, are_unlike_words, in_sequence, is_pair, is_row
from sayfill.errors import BadValue, TooMany

MOST_FIELDS = 6
MOST_VALUES = 5
MOST_RULES = 20
MOST_PAIRS = 4
MOST_FILLINGS = 1000


class Form:
    """Fields and rules; it does not change once it is made."""

    def __init__(self, fields, rules):
        if not _are_fields(fields):
            raise BadValue(0)
        kept = tuple([(name, tuple(values)) for name, values in fields])
        if not _are_rules(kept, rules):
            raise BadValue(1)
        if _ways_to_fill(kept) > MOST_FILLINGS:
            raise TooMany("fillings")
        self._fields = kept
        self._rules = _each_once([in_sequence(kept, rule) for rule in rules])

    def fields(self):
        """The pairs (name, values)."""
        return self._fields

    def rules(self):
        """The rules, each once, their pairs in the sequence of the fields."""
        return self._rules

    def __eq__(self, other):
        return isinstance(other, Form) and self._fields == other._fields and self._rules == other._rules


def _are_fields(fields):
    """Whether these are pairs (name, values) as a form may have them."""
    if not is_row(fields) or not 1 <= len(fields) <= MOST_FIELDS:
        return False
    for field in fields:
        if not is_pair(field) or not _are_values(field[1]):
            return False
    return are_unlike_words([field[0] for field in fields])


def _are_values(values):
    """Whether these are values as a field may have them."""
    return is_row(values) and 1 <= len(values) <= MOST_VALUES and are_unlike_words(values)


def _are_rules(fields, rules):
    """Whether these are rules over the fields."""
    if not is_row(rules) or len(rules) > MOST_RULES:
        return False
    for rule in rules:
        if not are_facts(fields, rule) or not 1 <= len(rule) <= MOST_PAIRS:
            return False
    return True


def _ways_to_fill(fields):
    """The numbers of values of all fields multiplied."""
    ways = 1
    for _, values in fields:
        ways = ways * len(values)
    return ways


def _each_once(rules):
    """The rules as a tuple, such as are alike at the first one's place."""
    kept = []
    for rule in rules:
        if rule not in kept:
            kept.append(rule)
    return tuple(kept)
