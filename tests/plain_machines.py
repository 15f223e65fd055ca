"""Machines told step by step as the document has it, by trying all; and machines to ask about."""

import copy
from random import Random

from helpers import PlainTalk, all_acts, random_parts

LOST = ("lost",)


def word_of(number):
    """Another word for each number below 676."""
    letters = "abcdefghijklmnopqrstuvwxyz"
    return "x" + letters[number // 26] + letters[number % 26]


def random_talk(seed):
    """Fields, rules, phrases with `yes` and `no` and few acts, and hearing; the same for the same seed."""
    chance = Random(seed)
    fields, rules = random_parts(seed)
    fields = fields[:3]
    rules = tuple(rule for rule in rules if all(pair[0] in dict(fields) for pair in rule))
    acts = list(all_acts(fields))
    acts = [("yes",), ("no",)] + chance.sample(acts, min(len(acts), chance.randint(1, 9)))
    chance.shuffle(acts)
    phrases = tuple((word_of(at), act) for at, act in enumerate(dict.fromkeys(acts)))
    texts = [text for text, _ in phrases]
    hearing = tuple((chance.choice(texts), chance.choice(texts)) for _ in range(chance.randint(0, 8)))
    return fields, rules, phrases, hearing


def plain_alphabet(phrases):
    """The acts, each once, then LOST."""
    return tuple(dict.fromkeys(tuple(act) for _, act in phrases)) + (LOST,)


def plain_machine(talk):
    """The machine of a PlainTalk, found by copies of it on which single acts are done."""
    alphabet = plain_alphabet(talk.phrases)
    talks, rows = [talk], []
    numbers = {(talk.facts(), talk.sure(), talk.lost): 0}
    for here in talks:
        row = []
        for act in alphabet:
            other = copy.copy(here)
            other.kept, other.confirmed = dict(here.kept), dict(here.confirmed)
            if act != LOST:
                other.act(act, other.asked())
            other.lost = act == LOST
            key = (other.facts(), other.sure(), other.lost)
            if key not in numbers:
                numbers[key] = len(talks)
                talks.append(other)
            row.append(numbers[key])
        rows.append(tuple(row))
    return (alphabet, tuple(other.prompt() for other in talks), tuple(rows))


def plain_talk(fields, rules, phrases, hearing, said=()):
    """A PlainTalk in which this was said."""
    talk = PlainTalk(fields, rules, phrases, hearing)
    for utterance in said:
        talk.say(utterance)
    return talk


def plain_walk(machine, acts):
    """The number of the state behind the acts, from the beginning."""
    alphabet, _, rows = machine
    state = 0
    for act in acts:
        state = rows[state][alphabet.index(act)]
    return state


def plain_least(machine):
    """The least machine, found by parting the states again and again by where their acts lead."""
    alphabet, prompts, rows = machine
    class_of = [prompts.index(prompt) for prompt in prompts]
    while True:
        marks = [(class_of[state],) + tuple(class_of[after] for after in rows[state]) for state in range(len(rows))]
        finer = [marks.index(mark) for mark in marks]
        if len(set(finer)) == len(set(class_of)):
            break
        class_of = finer
    found, least_rows = [class_of[0]], []
    for kept in found:
        row = []
        for after in rows[class_of.index(kept)]:
            if class_of[after] not in found:
                found.append(class_of[after])
            row.append(found.index(class_of[after]))
        least_rows.append(tuple(row))
    return (alphabet, tuple(prompts[class_of.index(kept)] for kept in found), tuple(least_rows))


def plain_parting(one, other):
    """The first of the shortest rows of acts behind which the two say unlike things, by telling all pairs of states."""
    alphabet = one[0]
    found = {(0, 0): ()}
    for (here, there), acts in _growing(found):
        if one[1][here] != other[1][there]:
            return acts
        for place, act in enumerate(alphabet):
            found.setdefault((one[2][here][place], other[2][there][place]), acts + (act,))
    return None


def _growing(found):
    """The items of a dict that grows meanwhile, in the sequence in which they came."""
    at = 0
    while at < len(found):
        yield list(found.items())[at]
        at += 1


def plain_dead_ends(machine):
    """The dead ends, by going on from each state."""
    _, prompts, rows = machine
    dead = []
    for state in range(len(rows)):
        reached = [state]
        for here in reached:
            reached += [after for after in dict.fromkeys(rows[here]) if after not in reached]
        if not any(prompts[here][0] == "done" for here in reached):
            dead.append(state)
    return tuple(dead)


def random_machine(seed, most_states=9, most_acts=3):
    """A machine of few states and acts, the same for the same seed."""
    chance = Random(seed)
    many = chance.randint(1, most_states)
    alphabet = tuple(chance.sample((("yes",), ("no",), ("drop", "a")), chance.randint(0, most_acts))) + (LOST,)
    said = chance.sample((("again",), ("clash", ()), ("done", (("a", "b"),)), ("ask", "a"), ("confirm", "a", "b")), 3)
    prompts = tuple(chance.choice(said) for _ in range(many))
    # Few prompts that differ and few ways that differ give states that are alike.
    reach = chance.randint(1, many)
    rows = tuple(tuple(chance.randrange(reach) for _ in alphabet) for _ in range(many))
    return (alphabet, prompts, rows)


def winding_machine(seed):
    """A machine of two prompts in which many acts lead from each state to the next one, so that it is parted late."""
    chance = Random(seed)
    many = chance.randint(4, 14)
    alphabet = ((("yes",), LOST) if chance.random() < 0.5 else (LOST,))
    prompts = tuple(chance.choice((("again",), ("again",), ("done", ()))) for _ in range(many))
    rows = tuple(tuple(chance.choice((chance.randrange(many), (state + 1) % many)) for _ in alphabet)
                 for state in range(many))
    return (alphabet, prompts, rows)


def chain(many, last=("done", ())):
    """A machine of many states, of which each leads to the next one by `yes`, to the first one by being lost."""
    rows = tuple((min(state + 1, many - 1), 0) for state in range(many))
    return ((("yes",), LOST), (("again",),) * (many - 1) + (last,), rows)
