"""Hearing: which words can be heard as which, and what is doubtful because of it."""

from sayfill.basics import is_pair, is_row, is_text, is_word
from sayfill.errors import BadValue
from sayfill.phrases import check_phrases


def heard(hearing, word):
    """The words that the word, said, can be heard as, ordered as strings."""
    if not _is_hearing(hearing):
        raise BadValue(0)
    if not is_word(word):
        raise BadValue(1)
    return tuple(sorted(set([word] + [second for first, second in hearing if first == word])))


def heard_as(hearing, said, other):
    """Whether the text said can be heard as the other one."""
    if not _is_hearing(hearing):
        raise BadValue(0)
    if not is_text(said):
        raise BadValue(1)
    if not is_text(other):
        raise BadValue(2)
    return _can_be(_table(hearing), said.split(" "), other.split(" "))


def doubtful(form, phrases, hearing):
    """The pairs (field, value) that can be heard where another act is said, in the sequence of the form."""
    check_phrases(form, phrases)
    if not _is_hearing(hearing):
        raise BadValue(2)
    table = _table(hearing)
    rows = [(text.split(" "), tuple(act)) for text, act in phrases]
    found = {}
    for words, act in rows:
        if act[0] == "set" and any([said != act and _can_be(table, text, words) for text, said in rows]):
            found[act[1:]] = True
    return tuple([(name, value) for name, values in form.fields() for value in values if (name, value) in found])


def _is_hearing(hearing):
    """Whether this is a sequence of pairs of words."""
    if not is_row(hearing):
        return False
    return all([is_pair(pair) and is_word(pair[0]) and is_word(pair[1]) for pair in hearing])


def _table(hearing):
    """The pairs to be looked up."""
    return {(first, second): True for first, second in hearing}


def _can_be(table, said, other):
    """Whether the words said can be heard as the others, each as the one at its place."""
    if len(said) != len(other):
        return False
    return all([one == two or (one, two) in table for one, two in zip(said, other)])
