"""What several modules ask of values that are handed in: sequences, words, texts, facts.

What is asked about may be any value, so each function asks of what kind it is before it looks into it.
"""

MOST_LETTERS = 8

# What stands beside the acts for an utterance that is not understood.
LOST = ("lost",)


def is_row(thing):
    """Whether the thing is a sequence; a string is none."""
    return isinstance(thing, (list, tuple))


def is_pair(thing):
    """Whether the thing is a sequence of two."""
    return is_row(thing) and len(thing) == 2


def is_number(thing):
    """Whether the thing is an integer from 0 on; True and False are none."""
    return isinstance(thing, int) and not isinstance(thing, bool) and thing >= 0


def is_small(string):
    """Whether the string is of small letters, one or more."""
    # Not islower or isalpha: these take letters beyond a to z, too.
    return len(string) > 0 and all(["a" <= sign <= "z" for sign in string])


def is_word(thing):
    """Whether the thing is a string of 1 to 8 small letters."""
    return isinstance(thing, str) and len(thing) <= MOST_LETTERS and is_small(thing)


def words_of(utterance):
    """What stands between the blanks of a string."""
    return [word for word in utterance.split(" ") if word]


def is_text(thing):
    """Whether the thing is a string of words, one or more, with one blank between."""
    return isinstance(thing, str) and all([is_word(word) for word in thing.split(" ")])


def are_unlike_words(things):
    """Whether all the members of a sequence are words, none of them twice."""
    return all([is_word(thing) for thing in things]) and len(set(things)) == len(things)


def are_facts(fields, facts):
    """Whether the facts are a sequence of pairs (field, value) of unlike fields with values of theirs.

    The fields are as Form.fields() tells them.
    """
    if not is_row(facts) or len(facts) > len(fields):
        return False
    values_of = dict(fields)
    told = {}
    for fact in facts:
        if not is_pair(fact):
            return False
        name, value = fact
        # A list cannot be looked up in a dict, so what is no string is sorted out first.
        if not isinstance(name, str) or name in told or name not in values_of:
            return False
        if value not in values_of[name]:
            return False
        told[name] = True
    return True


def in_sequence(fields, facts):
    """The pairs of what surely are facts, as tuples in the sequence of the fields."""
    value_of = dict(facts)
    return tuple([(name, value_of[name]) for name, _ in fields if name in value_of])


def in_tuples(thing):
    """The same with tuples in place of lists, also within."""
    return tuple([in_tuples(part) for part in thing]) if is_row(thing) else thing
