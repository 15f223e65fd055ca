"""Dialogues: what fills a form by talking."""

from sayfill.errors import BadValue, TooMany
from sayfill.forms import Form
from sayfill.hearing import doubtful
from sayfill.phrases import meanings
from sayfill.turns import after_act, prompt_of, to_confirm


class Dialogue:
    """A talk about a form: the facts, which of them are sure, and whether it is lost."""

    def __init__(self, form, phrases, hearing):
        if not isinstance(form, Form):
            raise BadValue(0)
        # This asks of the phrases and the hearing, too, which have the same places here.
        self._doubts = doubtful(form, phrases, hearing)
        self._form = form
        self._phrases = tuple([(text, tuple(act)) for text, act in phrases])
        self._hearing = tuple([tuple(pair) for pair in hearing])
        self._state = ((), ())
        self._lost = False

    def prompt(self):
        """What the dialogue says."""
        if self._lost:
            return ("again",)
        return prompt_of(self._form, self._state)

    def say(self, utterance):
        """Do what the utterance means, or be lost; then tell the prompt."""
        if not isinstance(utterance, str):
            raise BadValue(0)
        acts = self._acts_of(utterance)
        for act in acts:
            confirm = to_confirm(self._form, self._state)
            self._state = after_act(self._form, self._doubts, self._state, confirm, act)
        self._lost = len(acts) == 0
        return self.prompt()

    def facts(self):
        """The pairs (field, value), in the sequence of the fields."""
        return self._state[0]

    def sure(self):
        """The facts that are sure, in the sequence of the fields."""
        return self._state[1]

    def lost(self):
        """Whether the last utterance was not understood."""
        return self._lost

    def copy(self):
        """A dialogue that is the same and changes by itself."""
        other = Dialogue(self._form, self._phrases, self._hearing)
        other._state = self._state
        other._lost = self._lost
        return other

    def form(self):
        """The form that is filled."""
        return self._form

    def phrases(self):
        """The phrases as handed in, in tuples."""
        return self._phrases

    def hearing(self):
        """The hearing as handed in, in tuples."""
        return self._hearing

    def _acts_of(self, utterance):
        """The acts of the only reading, or () if the utterance is not understood."""
        try:
            readings = meanings(self._form, self._phrases, utterance)
        except TooMany:
            return ()
        return readings[0] if len(readings) == 1 else ()
