"""What several test files need: odd values, small forms, and questions about results."""

import sys
import unittest
from contextlib import contextmanager
from itertools import combinations, product
from random import Random

from sayfill.errors import BadValue


class ErrorCase(unittest.TestCase):
    """Tests that ask which argument is told to be wrong."""

    def assert_bad(self, at, call, *things):
        with self.assertRaises(BadValue, msg=repr(things)[:300]) as caught:
            call(*things)
        self.assertEqual(caught.exception.at, at)
        self.assertIs(type(caught.exception.at), int)


@contextmanager
def shallow_calls():
    """Within it, calls can be nested some two hundred deep, and no deeper."""
    depth, frame = 0, sys._getframe()
    while frame:
        depth, frame = depth + 1, frame.f_back
    limit = sys.getrecursionlimit()
    sys.setrecursionlimit(depth + 200)
    try:
        yield
    finally:
        sys.setrecursionlimit(limit)


def nested(depth, thing):
    """The thing within this many lists."""
    for _ in range(depth):
        thing = [thing]
    return thing


# Values of every kind that may be handed in, none of which is a word, a field or a value of a form below.
ODD_THINGS = (
    None, True, False, 0, 1, 2, -1, 10 ** 30 - 1, 1 - 10 ** 30,
    "", " ", "A", "Day", "a b", " a", "a\n", "a1", "1", "_", "a-b", "\u00e9", "\u0430", "\u00df", "\uff41", "\u00aa",
    "ninesigns", "x" * 200000, "\n" * 3, "{", "`",
    [None], (None,), [[]], ((),), [True], (0, 1), ["Day", "mon"], [1, "mon"], nested(39, None), nested(39, "day"),
    [(), ()], ["", ""], [None, None], [[["day"]], "mon"],
)

EMPTY_ROWS = ((), [])


def odd_facts():
    """What are no facts of the form of small(), nor of any other form."""
    things = list(ODD_THINGS) + ["day", "ab", ("day", "mon"), ["day", "mon"]]
    for odd in ODD_THINGS + EMPTY_ROWS:
        things.append((odd,))
        things.append([odd])
        things.append((("day", odd),))
        things.append([[odd, "mon"]])
        things.append((("day", "mon"), odd))
        things.append((odd, ("day", "mon")))
    return things


def wrong_facts():
    """What are no facts of the form of small(), though made of strings alone."""
    return [
        (("day", "mon"), ("day", "mon")),
        (("day", "mon"), ("day", "tue")),
        (("day", "mon"), ("size", "big"), ("day", "mon")),
        (("day", "mon"), ("size", "big"), ("hour", "one"), ("hour", "one")),
        (("day", "big"),),
        (("day", "day"),),
        (("mon", "day"),),
        (("days", "mon"),),
        (("da", "mon"),),
        (("day", "mo"),),
        (("day", "mon", "tue"),),
        (("day",),),
        ("day", "mon"),
        ("daymon",),
        (("day", ("mon",)),),
        ((("day",), "mon"),),
        ((("day", "mon"),),),
        ("ab",),
    ]


SMALL_FIELDS = (("day", ("mon", "tue")), ("size", ("big", "small")), ("hour", ("one", "two", "three")))
SMALL_RULES = ((("day", "mon"), ("size", "big")), (("size", "small"), ("hour", "two")))


# Phrases of the form of SMALL_FIELDS, with every kind of act; no utterance has more than one reading.
SMALL_PHRASES = (
    ("on monday", ("set", "day", "mon")), ("on tuesday", ("set", "day", "tue")),
    ("large", ("set", "size", "big")), ("little", ("set", "size", "small")),
    ("at one", ("set", "hour", "one")), ("at two", ("set", "hour", "two")), ("at three", ("set", "hour", "three")),
    ("not monday", ("not", "day", "mon")), ("not tuesday", ("not", "day", "tue")),
    ("not large", ("not", "size", "big")), ("not at two", ("not", "hour", "two")),
    ("any day", ("drop", "day")), ("any size", ("drop", "size")), ("any hour", ("drop", "hour")),
    ("yes", ("yes",)), ("right", ("yes",)), ("no", ("no",)),
)

# What of SMALL_PHRASES is doubtful with this: day mon, day tue, size small.
SMALL_HEARING = (("monday", "tuesday"), ("tuesday", "monday"), ("large", "little"), ("one", "on"), ("two", "two"))

# Form.fields() with 52 acts in all, which is more than any other form of so many fields has.
WIDE_FIELDS = (
    ("ape", ("v", "w", "x", "y", "z")), ("bee", ("v", "w", "x", "y", "z")), ("cat", ("v", "w", "x", "y", "z")),
    ("dog", ("v", "w", "x", "y")), ("eel", ("v", "w")), ("fox", ("v",)),
)


def all_acts(fields):
    """All the acts of a form with the fields."""
    acts = [(kind, name, value) for kind in ("set", "not") for name, values in fields for value in values]
    return tuple(acts) + tuple(("drop", name) for name, _ in fields) + (("yes",), ("no",))


def odd_acts():
    """What are no acts of the form of small(), nor of any other form."""
    things = list(ODD_THINGS) + ["yes", "no", "drop", "set", (), [], ("yes", "no"), ["set", "day mon"]]
    for odd in ODD_THINGS + EMPTY_ROWS:
        things += [(odd,), [odd], ("yes", odd), ["no", odd], ("drop", odd), ["set", "day", odd], ("not", "day", odd)]
        things += [("set", odd, "mon"), ["not", odd, "mon"], (odd, "day", "mon"), [odd, "day"], ("drop", "day", odd)]
        things += [("set", "day", "mon", odd), ["not", "day", "mon", odd]]
    return things


def wrong_acts():
    """What are no acts of the form of small(), though made of words alone."""
    return [
        ("maybe",), ("ye",), ("yess",), ("ask", "day"), ("done",), ("lost",), ("confirm", "day", "mon"), ("again",),
        ("yes", "day"), ("no", "day"), ("yes", "day", "mon"), ("no", "no"),
        ("drop",), ("drop", "days"), ("drop", "mon"), ("drop", "day", "mon"), ("drop", "day", "size"),
        ("drop", ("day",)), ("drop", ("day", "mon")),
        ("set",), ("set", "day"), ("set", "mon"), ("set", "day", "mon", "tue"), ("set", "day", "mon", "size", "big"),
        ("set", "days", "mon"), ("set", "mon", "day"), ("set", "day", "big"), ("set", "day", "day"),
        ("set", ("day", "mon")), ("set", "day", ("mon",)), ("set", ("day",), "mon"), (("set", "day", "mon"),),
        ("not",), ("not", "day"), ("not", "day", "mon", "tue"), ("not", "days", "mon"), ("not", "size", "mon"),
        ("not", ("day", "mon")), (("not",), "day", "mon"), (("yes",),), (("drop",), "day"),
    ]


# What are no texts of words.
WRONG_TEXTS = (
    "", " ", "  ", " on", "on ", " on monday", "on monday ", "on  monday", "on\nmonday", "on\tmonday", "on\u00a0monday",
    "On", "on Monday", "ON", "on1", "on 1", "1", "on, monday", "on-monday", "on'", "on.", "ninesigns", "on ninesigns",
    "\u00e4b", "on \u00e9", "\u0430", "on\n", "\n", "_", "on _", "on{", "on`",
)


def only_tuples(thing):
    """Whether the thing is made of tuples and strings alone."""
    if isinstance(thing, str):
        return True
    return isinstance(thing, tuple) and all(only_tuples(part) for part in thing)


def listed(thing):
    """The same with lists in place of tuples."""
    if isinstance(thing, (list, tuple)):
        return [listed(part) for part in thing]
    return thing


def random_parts(seed):
    """Fields and rules, the same for the same seed."""
    chance = Random(seed)
    fields = []
    for name in chance.sample(["ape", "bee", "cat", "dog", "eel", "fox"], chance.randint(1, 5)):
        fields.append((name, tuple(chance.sample("vwxyz", chance.randint(1, 3)))))
    rules = [random_facts(chance, fields, 1, 4) for _ in range(chance.randint(0, 9))]
    return tuple(fields), tuple(rules)


def random_facts(chance, fields, least, most):
    """Facts of some of the fields, in any sequence."""
    many = min(len(fields), chance.randint(least, most))
    return tuple((name, chance.choice(values)) for name, values in chance.sample(list(fields), many))


def plain_fillings(fields, rules, facts):
    """The fillings that fit, found by trying all the values of all the fields."""
    found = []
    for values in product(*[values for _, values in fields]):
        row = tuple(zip([name for name, _ in fields], values))
        if all(pair in row for pair in facts) and not any(all(pair in row for pair in rule) for rule in rules):
            found.append(row)
    return tuple(found)


def plain_clash(fields, rules, facts):
    """The lot of a clash, found by trying all the lots in their order."""
    numbers = {name: at for at, (name, _) in enumerate(fields)}
    lots = [lot for size in range(len(facts) + 1) for lot in combinations(facts, size)]
    lots = [tuple(sorted(lot, key=lambda pair: numbers[pair[0]])) for lot in lots]
    lots.sort(key=lambda lot: (len(lot), tuple(numbers[name] for name, _ in lot)))
    if plain_fillings(fields, rules, facts):
        return None
    return next(lot for lot in lots if not plain_fillings(fields, rules, lot))


def words_of(utterance):
    """What stands between blanks."""
    return [word for word in utterance.split(" ") if word]


def plain_partings(phrases, words):
    """All the ways to part the words into phrases, found by trying each phrase at each place."""
    if not words:
        return [()]
    found = []
    for text, act in phrases:
        many = len(text.split(" "))
        if " ".join(words[:many]) == text:
            found += [((text, act),) + way for way in plain_partings(phrases, words[many:])]
    return found


def plain_readings(phrases, utterance):
    """All the readings, put in order at the end."""
    acts = [act for _, act in phrases]
    ways = plain_partings(phrases, words_of(utterance))
    readings = {tuple(act for _, act in way) for way in ways}
    return tuple(sorted(readings, key=lambda row: (len(row), [acts.index(act) for act in row])))


def plain_double(phrases, most):
    """The first double of at most so many words, found by telling all the rows of phrases, or None."""
    told = {}
    rows = [()]
    while rows:
        rows = [row + (phrase,) for row in rows for phrase in phrases]
        rows = [row for row in rows if sum(len(text.split(" ")) for text, _ in row) <= most]
        for row in rows:
            words = tuple(" ".join(text for text, _ in row).split(" "))
            told[words] = told.get(words, 0) + 1
    doubles = sorted((len(words), words) for words, many in told.items() if many > 1)
    return " ".join(doubles[0][1]) if doubles else None


def has_double(phrases):
    """Whether two unlike rows of phrases make one utterance, by the rests that are left (Sardinas and Patterson)."""
    texts = [tuple(text.split(" ")) for text, _ in phrases]
    if len(set(texts)) < len(texts):
        return True
    rests = {two[len(one):] for one in texts for two in texts if one != two and two[:len(one)] == one}
    while True:
        more = {text[len(rest):] for rest in rests for text in texts if text[:len(rest)] == rest}
        more |= {rest[len(text):] for rest in rests for text in texts if rest[:len(text)] == text}
        if () in more:
            return True
        if more <= rests:
            return False
        rests |= more


def random_phrases(seed, fields, letters, most_texts, most_words):
    """Phrases of short texts with some of the acts of a form with the fields, the same for the same seed."""
    chance = Random(seed)
    acts = chance.sample(all_acts(fields), chance.randint(1, 5))
    phrases = []
    for _ in range(chance.randint(1, most_texts)):
        text = " ".join(chance.choice(letters) for _ in range(chance.randint(1, most_words)))
        phrase = (text, chance.choice(acts))
        if phrase not in phrases:
            phrases.append(phrase)
    return tuple(phrases)


def plain_doubtful(fields, phrases, hearing):
    """The doubtful pairs, found by asking of each two phrases."""
    pairs = []
    for name, values in fields:
        for value in values:
            for text, act in phrases:
                for said, other in phrases:
                    if act != ("set", name, value) or other == act or len(said.split()) != len(text.split()):
                        continue
                    words = list(zip(said.split(), text.split()))
                    if all(one == two or (one, two) in hearing for one, two in words):
                        pairs.append((name, value))
    return tuple(pair for at, pair in enumerate(pairs) if pair not in pairs[:at])


class PlainTalk:
    """A dialogue told word by word as the document has it, by trying all."""

    def __init__(self, fields, rules, phrases, hearing):
        self.fields, self.rules, self.phrases = fields, rules, phrases
        self.doubts = plain_doubtful(fields, phrases, hearing)
        self.kept, self.confirmed, self.lost = {}, {}, False

    def facts(self):
        return tuple((name, self.kept[name]) for name, _ in self.fields if name in self.kept)

    def sure(self):
        return tuple((name, value) for name, value in self.facts() if self.confirmed[name])

    def asked(self):
        rows = plain_fillings(self.fields, self.rules, self.facts())
        if not rows:
            return ("clash", plain_clash(self.fields, self.rules, self.facts()))
        for name, value in self.facts():
            if not self.confirmed[name]:
                return ("confirm", name, value)
        for at, (name, _) in enumerate(self.fields):
            if len({row[at] for row in rows}) > 1:
                return ("ask", name)
        return ("done", rows[0])

    def prompt(self):
        return ("again",) if self.lost else self.asked()

    def say(self, utterance):
        readings = plain_readings(self.phrases, utterance) if len(words_of(utterance)) <= 30 else ()
        self.lost = len(readings) != 1 or readings[0] == ()
        for act in () if self.lost else readings[0]:
            self.act(act, self.asked())
        return self.prompt()

    def act(self, act, asked):
        if act[0] == "set":
            self.kept[act[1]] = act[2]
            self.confirmed[act[1]] = act[1:] not in self.doubts or asked == ("confirm", act[1], act[2])
        elif act[0] == "not" and self.kept.get(act[1]) == act[2]:
            del self.kept[act[1]]
        elif act[0] == "drop" and act[1] in self.kept:
            del self.kept[act[1]]
        elif act[0] == "yes" and asked[0] == "confirm":
            self.confirmed[asked[1]] = True
        elif act[0] == "no" and asked[0] == "confirm":
            del self.kept[asked[1]]
