"""What a dialogue says, and what an act does to it, as long as it is not lost.

A state is a pair: the facts, and those of them that are sure, both in the sequence of the form's fields.
"""

from sayfill.basics import in_sequence
from sayfill.filling import clash, fillings, open_fields


def prompt_of(form, state):
    """What is said in the state."""
    facts, _ = state
    lot = clash(form, facts)
    if lot is not None:
        return ("clash", lot)
    fact = to_confirm(form, state)
    if fact is not None:
        return ("confirm",) + fact
    names = open_fields(form, facts)
    if names:
        return ("ask", names[0])
    return ("done", fillings(form, facts)[0])


def to_confirm(form, state):
    """The fact that a confirm is asked of in the state, or None if something else is said."""
    facts, sure = state
    unsure = [fact for fact in facts if fact not in sure]
    # A clash is told ahead of a confirm.
    if unsure and fillings(form, facts):
        return unsure[0]
    return None


def after_act(form, doubts, state, confirm, act):
    """The state behind the act; doubts are the doubtful pairs, confirm is what to_confirm tells of the state."""
    facts, sure = state
    kind = act[0]
    if kind == "set":
        fact = act[1:]
        return _with_fact(form, state, fact, fact not in doubts or fact == confirm)
    if kind == "drop":
        return _without(state, act[1])
    if kind == "not":
        return _without(state, act[1]) if act[1:] in facts else state
    if confirm is None:
        return state
    if kind == "yes":
        return (facts, in_sequence(form.fields(), sure + (confirm,)))
    return _without(state, confirm[0])


def _with_fact(form, state, fact, is_sure):
    """The state in which the fact's field has just this value."""
    facts, sure = _without(state, fact[0])
    now_sure = sure + (fact,) if is_sure else sure
    return (in_sequence(form.fields(), facts + (fact,)), in_sequence(form.fields(), now_sure))


def _without(state, field):
    """The state in which the field has no value."""
    facts, sure = state
    return (tuple([fact for fact in facts if fact[0] != field]), tuple([fact for fact in sure if fact[0] != field]))
