"""Compiling: the machine that says what a dialogue says."""

from sayfill.basics import LOST
from sayfill.numbering import numbered
from sayfill.phrases import acts_once
from sayfill.turns import Turns


def compiled(dialogue):
    """The machine of the states that the dialogue can come to from the one in which it is."""
    turns = Turns(dialogue.form(), dialogue.phrases(), dialogue.hearing())
    alphabet = tuple(acts_once(dialogue.phrases())) + (LOST,)
    begin = (dialogue.facts(), dialogue.sure(), dialogue.lost())
    states, rows = numbered(begin, lambda state: [turns.after(state, act) for act in alphabet])
    return (alphabet, tuple([turns.prompt(state) for state in states]), rows)
