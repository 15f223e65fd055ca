"""Machines: what is one, what it says, the least one, and what parts two of them.

A machine is a triple: the alphabet, what each state says, and for each state the numbers of the next ones.
"""

from sayfill.alike import classes
from sayfill.basics import LOST, in_tuples, is_number, is_pair, is_row
from sayfill.errors import BadValue
from sayfill.numbering import MOST_STATES, numbered

MOST_STRINGS = 3


def is_machine(machine):
    """Whether the thing is a machine; lists may stand in place of tuples."""
    if not is_row(machine) or len(machine) != 3:
        return False
    alphabet, prompts, rows = machine
    if not _is_alphabet(alphabet) or not is_row(prompts) or not is_row(rows):
        return False
    if not 1 <= len(rows) <= MOST_STATES or len(prompts) != len(rows):
        return False
    if not all([_is_prompt(prompt) for prompt in prompts]):
        return False
    return all([_leads_on(row, len(alphabet), len(rows)) for row in rows])


def walked(machine, acts):
    """The prompts of the beginning and behind each of the acts."""
    kept = _machine_at(0, machine)
    alphabet, prompts, _ = kept
    if not is_row(acts) or not _are_acts(alphabet, acts):
        raise BadValue(1)
    return (prompts[0],) + _told(kept, [[act] for act in acts])


def spoken(machine, readings):
    """The prompts behind each of the readings; None is what is not understood."""
    kept = _machine_at(0, machine)
    alphabet, _, _ = kept
    if not is_row(readings) or not all([_is_reading(alphabet, reading) for reading in readings]):
        raise BadValue(1)
    return _told(kept, [[LOST] if reading is None else reading for reading in readings])


def least(machine):
    """The machine with fewest states that says the same for all rows of acts."""
    alphabet, prompts, rows = _machine_at(0, machine)
    class_of = classes(prompts, rows)
    # Any state of a class does for all of it.
    state_of = {class_of[state]: state for state in range(len(rows))}
    found, least_rows = numbered(class_of[0], lambda number: [class_of[after] for after in rows[state_of[number]]])
    return (alphabet, tuple([prompts[state_of[kept]] for kept in found]), least_rows)


def parting(one, other):
    """The first of the shortest rows of acts behind which the two say unlike things, or None."""
    alphabet, prompts, rows = _machine_at(0, one)
    same_alphabet, other_prompts, other_rows = _machine_at(1, other)
    if same_alphabet != alphabet:
        raise BadValue(1)
    # The two as one, in which the other one's states follow.
    many = len(rows)
    prompts = prompts + other_prompts
    rows = rows + tuple([tuple([many + state for state in row]) for row in other_rows])
    acts = _parting_acts(prompts, rows, many)
    return None if acts is None else tuple([alphabet[act] for act in acts])


def dead_ends(machine):
    """The numbers of the states from which none is reached that says that it is done."""
    _, prompts, rows = _machine_at(0, machine)
    sources = [[] for _ in rows]
    for state in range(len(rows)):
        for after in rows[state]:
            sources[after].append(state)
    is_live = [prompt[0] == "done" for prompt in prompts]
    waiting = [state for state in range(len(rows)) if is_live[state]]
    while waiting:
        for state in sources[waiting.pop()]:
            if not is_live[state]:
                is_live[state] = True
                waiting.append(state)
    return tuple([state for state in range(len(rows)) if not is_live[state]])


def _is_alphabet(alphabet):
    """Whether these are unlike sequences of strings, of which LOST is the last one."""
    if not is_row(alphabet) or len(alphabet) == 0:
        return False
    if not all([_are_strings(act) and 1 <= len(act) <= MOST_STRINGS for act in alphabet]):
        return False
    return tuple(alphabet[-1]) == LOST and len(set([tuple(act) for act in alphabet])) == len(alphabet)


def _are_strings(things):
    """Whether this is a sequence of strings."""
    return is_row(things) and all([isinstance(thing, str) for thing in things])


def _is_prompt(prompt):
    """Whether a dialogue could say this of some form."""
    if not is_row(prompt) or len(prompt) == 0:
        return False
    if prompt[0] == "clash" or prompt[0] == "done":
        return len(prompt) == 2 and _are_pairs(prompt[1])
    if not _are_strings(prompt):
        return False
    return (prompt[0], len(prompt)) in [("again", 1), ("ask", 2), ("confirm", 3)]


def _are_pairs(things):
    """Whether this is a sequence of pairs of strings."""
    return is_row(things) and all([is_pair(pair) and _are_strings(pair) for pair in things])


def _leads_on(row, acts, states):
    """Whether this tells for each of so many acts one of so many states."""
    if not is_row(row) or len(row) != acts:
        return False
    return all([is_number(state) and state < states for state in row])


def _machine_at(at, machine):
    """The machine in tuples; the error names the place at if it is none."""
    if not is_machine(machine):
        raise BadValue(at)
    return in_tuples(machine)


def _are_acts(alphabet, things):
    """Whether all the members of a sequence are acts of the alphabet."""
    known = {act: True for act in alphabet}
    return all([_are_strings(thing) and tuple(thing) in known for thing in things])


def _is_reading(alphabet, reading):
    """Whether this is None, or a row of acts, one or more, without LOST."""
    if reading is None:
        return True
    return is_row(reading) and len(reading) > 0 and _are_acts(alphabet[:-1], reading)


def _told(machine, rows_of_acts):
    """What the machine says behind each of the rows of acts, done one behind the other from the beginning on."""
    alphabet, prompts, rows = machine
    places = {alphabet[place]: place for place in range(len(alphabet))}
    state = 0
    told = []
    for acts in rows_of_acts:
        for act in acts:
            state = rows[state][places[tuple(act)]]
        told.append(prompts[state])
    return tuple(told)


def _parting_acts(prompts, rows, other):
    """The numbers of the first acts behind which the states 0 and other say unlike things, or None."""
    heads = list(range(len(rows)))
    heads[other] = 0
    # Two states, and how they were found: behind which two, by their place here, and by which act.
    found = [(0, other, 0, 0)]
    at = 0
    while at < len(found):
        one, two, _, _ = found[at]
        if prompts[one] != prompts[two]:
            return _acts_to(found, at)
        for act in range(len(rows[one])):
            after_one, after_two = rows[one][act], rows[two][act]
            head, other_head = _head(heads, after_one), _head(heads, after_two)
            # States with one head say the same if all that was found says the same: what parts them would part
            # two that were found earlier, and these come first.
            if head != other_head:
                heads[head] = other_head
                found.append((after_one, after_two, at, act))
        at += 1
    return None


def _head(heads, state):
    """The state at the end of the row of heads that begins with the state; the row is made shorter on the way."""
    while heads[state] != state:
        heads[state] = heads[heads[state]]
        state = heads[state]
    return state


def _acts_to(found, at):
    """The acts by which the two states at the place were found."""
    acts = []
    while at > 0:
        _, _, at, act = found[at]
        acts.append(act)
    return acts[::-1]
