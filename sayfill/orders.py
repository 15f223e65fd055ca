"""Orders: the lines that a desk takes."""

from sayfill.basics import is_small

# The kinds of lines that are one word alone.
SINGLE = ("begin", "prompt", "facts", "states", "double")

# How many words each kind of act has.
ACT_WORDS = {"set": 3, "not": 3, "drop": 2, "yes": 1, "no": 1}


def order_of(line):
    """The kind of the line and what it tells, or None if it is no line that a desk takes."""
    if not isinstance(line, str):
        return None
    kind, *words = line.split(" ")
    if kind == "phrase":
        return _phrase_order(words)
    if not all([is_small(word) for word in words]):
        return None
    many = len(words)
    if kind == "field" and many >= 2:
        return (kind, (words[0], tuple(words[1:])))
    if kind == "rule" and many >= 2 and many % 2 == 0:
        return (kind, tuple([(words[at], words[at + 1]) for at in range(0, many, 2)]))
    if kind == "hear" and many == 2:
        return (kind, tuple(words))
    if kind == "say":
        return (kind, " ".join(words))
    if kind in SINGLE and many == 0:
        return (kind, None)
    return None


def _phrase_order(words):
    """The order of a line that tells a phrase, by the words behind its kind."""
    if ":" not in words:
        return None
    at = words.index(":")
    act, text = words[:at], words[at + 1:]
    if not act or not text or ACT_WORDS.get(act[0], 0) != len(act):
        return None
    if not all([is_small(word) for word in act + text]):
        return None
    return ("phrase", (" ".join(text), tuple(act)))
