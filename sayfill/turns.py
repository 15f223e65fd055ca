"""What a dialogue says, and what an act does to it.

A state is a triple: the facts, those of them that are sure, both in the sequence of the form's fields, and whether
the dialogue is lost.
"""

from sayfill.basics import LOST, in_sequence
from sayfill.hearing import doubtful
from sayfill.tables import Table


class Turns:
    """The turns of the dialogues of one form, phrases and hearing."""

    def __init__(self, form, phrases, hearing):
        self._doubts = doubtful(form, phrases, hearing)
        self._fields = form.fields()
        self._table = Table(form)

    def prompt(self, state):
        """What is said in the state."""
        facts, _, lost = state
        if lost:
            return ("again",)
        lot = self._table.clash(facts)
        if lot is not None:
            return ("clash", lot)
        fact = self._to_confirm(state)
        if fact is not None:
            return ("confirm",) + fact
        fitting = self._table.fitting(facts)
        names = self._table.open_fields(fitting)
        if names:
            return ("ask", names[0])
        return ("done", self._table.first(fitting))

    def after(self, state, act):
        """The state behind the act; behind LOST the dialogue is lost, behind any other one it is not."""
        facts, sure, _ = state
        if act == LOST:
            return (facts, sure, True)
        confirm = self._to_confirm(state)
        kind = act[0]
        if kind == "set":
            fact = act[1:]
            return self._with_fact(state, fact, fact not in self._doubts or fact == confirm)
        if kind == "drop":
            return _without(state, act[1])
        if kind == "not" and act[1:] in facts:
            return _without(state, act[1])
        if kind == "yes" and confirm is not None:
            return (facts, in_sequence(self._fields, sure + (confirm,)), False)
        if kind == "no" and confirm is not None:
            return _without(state, confirm[0])
        return (facts, sure, False)

    def _to_confirm(self, state):
        """The fact that a confirm is asked of in the state, if it is not lost, or None if something else is said."""
        facts, sure, _ = state
        unsure = [fact for fact in facts if fact not in sure]
        # A clash is told ahead of a confirm.
        if unsure and self._table.fitting(facts):
            return unsure[0]
        return None

    def _with_fact(self, state, fact, is_sure):
        """The state in which the fact's field has just this value."""
        facts, sure, _ = _without(state, fact[0])
        now_sure = sure + (fact,) if is_sure else sure
        return (in_sequence(self._fields, facts + (fact,)), in_sequence(self._fields, now_sure), False)


def _without(state, field):
    """The state in which the field has no value."""
    facts, sure, _ = state
    kept = tuple([fact for fact in facts if fact[0] != field])
    return (kept, tuple([fact for fact in sure if fact[0] != field]), False)
