"""What several test files need: odd values, small forms, and questions about results."""

from itertools import combinations, product
from random import Random


def nested(depth, thing):
    """The thing within this many lists."""
    for _ in range(depth):
        thing = [thing]
    return thing


# Values of every kind that may be handed in, none of which is a word, a field or a value of a form below.
ODD_THINGS = (
    None, True, False, 0, 1, 2, -1, 10 ** 30 - 1, 1 - 10 ** 30,
    "", " ", "A", "Day", "a b", " a", "a\n", "a1", "1", "_", "a-b", "\u00e9", "\u0430", "\u00df", "\uff41", "\u00aa",
    "ninesigns", "x" * 200000, "\n" * 3, "{", "`",
    [None], (None,), [[]], ((),), [True], (0, 1), ["Day", "mon"], [1, "mon"], nested(39, None), nested(39, "day"),
    [(), ()], ["", ""], [None, None], [[["day"]], "mon"],
)

EMPTY_ROWS = ((), [])


def odd_facts():
    """What are no facts of the form of small(), nor of any other form."""
    things = list(ODD_THINGS) + ["day", "ab", ("day", "mon"), ["day", "mon"]]
    for odd in ODD_THINGS + EMPTY_ROWS:
        things.append((odd,))
        things.append([odd])
        things.append((("day", odd),))
        things.append([[odd, "mon"]])
        things.append((("day", "mon"), odd))
        things.append((odd, ("day", "mon")))
    return things


def wrong_facts():
    """What are no facts of the form of small(), though made of strings alone."""
    return [
        (("day", "mon"), ("day", "mon")),
        (("day", "mon"), ("day", "tue")),
        (("day", "mon"), ("size", "big"), ("day", "mon")),
        (("day", "mon"), ("size", "big"), ("hour", "one"), ("hour", "one")),
        (("day", "big"),),
        (("day", "day"),),
        (("mon", "day"),),
        (("days", "mon"),),
        (("da", "mon"),),
        (("day", "mo"),),
        (("day", "mon", "tue"),),
        (("day",),),
        ("day", "mon"),
        ("daymon",),
        (("day", ("mon",)),),
        ((("day",), "mon"),),
        ((("day", "mon"),),),
        ("ab",),
    ]


SMALL_FIELDS = (("day", ("mon", "tue")), ("size", ("big", "small")), ("hour", ("one", "two", "three")))
SMALL_RULES = ((("day", "mon"), ("size", "big")), (("size", "small"), ("hour", "two")))


def only_tuples(thing):
    """Whether the thing is made of tuples and strings alone."""
    if isinstance(thing, str):
        return True
    return isinstance(thing, tuple) and all(only_tuples(part) for part in thing)


def listed(thing):
    """The same with lists in place of tuples."""
    if isinstance(thing, (list, tuple)):
        return [listed(part) for part in thing]
    return thing


def random_parts(seed):
    """Fields and rules, the same for the same seed."""
    chance = Random(seed)
    fields = []
    for name in chance.sample(["ape", "bee", "cat", "dog", "eel", "fox"], chance.randint(1, 5)):
        fields.append((name, tuple(chance.sample("vwxyz", chance.randint(1, 3)))))
    rules = [random_facts(chance, fields, 1, 4) for _ in range(chance.randint(0, 9))]
    return tuple(fields), tuple(rules)


def random_facts(chance, fields, least, most):
    """Facts of some of the fields, in any sequence."""
    many = min(len(fields), chance.randint(least, most))
    return tuple((name, chance.choice(values)) for name, values in chance.sample(list(fields), many))


def plain_fillings(fields, rules, facts):
    """The fillings that fit, found by trying all the values of all the fields."""
    found = []
    for values in product(*[values for _, values in fields]):
        row = tuple(zip([name for name, _ in fields], values))
        if all(pair in row for pair in facts) and not any(all(pair in row for pair in rule) for rule in rules):
            found.append(row)
    return tuple(found)


def plain_clash(fields, rules, facts):
    """The lot of a clash, found by trying all the lots in their order."""
    numbers = {name: at for at, (name, _) in enumerate(fields)}
    lots = [lot for size in range(len(facts) + 1) for lot in combinations(facts, size)]
    lots = [tuple(sorted(lot, key=lambda pair: numbers[pair[0]])) for lot in lots]
    lots.sort(key=lambda lot: (len(lot), tuple(numbers[name] for name, _ in lot)))
    if plain_fillings(fields, rules, facts):
        return None
    return next(lot for lot in lots if not plain_fillings(fields, rules, lot))
