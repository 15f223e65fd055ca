"""Dialogues: what fills a form by talking."""

from sayfill.basics import LOST, in_tuples
from sayfill.errors import BadValue, TooMany
from sayfill.forms import Form
from sayfill.phrases import readings_of
from sayfill.turns import Turns


class Dialogue:
    """A talk about a form: the facts, which of them are sure, and whether it is lost."""

    def __init__(self, form, phrases, hearing):
        if not isinstance(form, Form):
            raise BadValue(0)
        # This asks of the phrases and the hearing, too, which have the same places here.
        self._turns = Turns(form, phrases, hearing)
        self._form = form
        self._phrases = in_tuples(phrases)
        self._hearing = in_tuples(hearing)
        self._state = ((), (), False)

    def prompt(self):
        """What the dialogue says."""
        return self._turns.prompt(self._state)

    def say(self, utterance):
        """Do what the utterance means, or be lost; then tell the prompt."""
        if not isinstance(utterance, str):
            raise BadValue(0)
        for act in self._acts_of(utterance):
            self._state = self._turns.after(self._state, act)
        return self.prompt()

    def facts(self):
        """The pairs (field, value), in the sequence of the fields."""
        return self._state[0]

    def sure(self):
        """The facts that are sure, in the sequence of the fields."""
        return self._state[1]

    def lost(self):
        """Whether the last utterance was not understood."""
        return self._state[2]

    def copy(self):
        """A dialogue that is the same and changes by itself."""
        other = Dialogue(self._form, self._phrases, self._hearing)
        other._state = self._state
        return other

    def form(self):
        """The form that is filled."""
        return self._form

    def phrases(self):
        """The phrases as handed in, in tuples."""
        return self._phrases

    def hearing(self):
        """The hearing as handed in, in tuples."""
        return self._hearing

    def _acts_of(self, utterance):
        """The acts of the only reading, or the one of being lost if the utterance is not understood."""
        try:
            readings = readings_of(self._phrases, utterance)
        except TooMany:
            return (LOST,)
        if len(readings) != 1 or len(readings[0]) == 0:
            return (LOST,)
        return readings[0]
