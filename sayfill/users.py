"""Users: fillings that answer what a dialogue says."""

from sayfill.errors import BadValue, NothingThere, TooMany
from sayfill.filling import is_filling
from sayfill.phrases import acts_once
from sayfill.turns import Turns

MOST_ACTS = 40


def served(dialogue, filling):
    """The prompts and the user's acts in turn, from what the dialogue says now until it is done."""
    form = dialogue.form()
    if not is_filling(form, filling):
        raise BadValue(1)
    turns = Turns(form, dialogue.phrases(), dialogue.hearing())
    acts = acts_once(dialogue.phrases())
    value_of = dict(filling)
    state = (dialogue.facts(), dialogue.sure(), dialogue.lost())
    row = [turns.prompt(state)]
    while row[-1][0] != "done":
        act = _answer(value_of, row[-1])
        # None, for no answer, is no act of a phrase either.
        if act not in acts:
            raise NothingThere("act")
        # Each act stands behind a prompt.
        if len(row) > 2 * MOST_ACTS:
            raise TooMany("turns")
        state = turns.after(state, act)
        row.append(act)
        row.append(turns.prompt(state))
    return tuple(row)


def _answer(value_of, prompt):
    """The act with which a user with the values answers the prompt, or None."""
    kind = prompt[0]
    if kind == "ask":
        return ("set", prompt[1], value_of[prompt[1]])
    if kind == "confirm":
        _, name, value = prompt
        return ("yes",) if value == value_of[name] else ("set", name, value_of[name])
    if kind == "clash":
        for name, value in prompt[1]:
            if value != value_of[name]:
                return ("set", name, value_of[name])
    return None
