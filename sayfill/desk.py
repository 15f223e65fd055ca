"""The desk: a dialogue that is told and led line by line."""

from sayfill.basics import is_word
from sayfill.compiling import compiled
from sayfill.dialogues import Dialogue
from sayfill.errors import BadLine, BadValue, NothingThere, TooMany
from sayfill.forms import Form
from sayfill.machines import least
from sayfill.orders import order_of
from sayfill.phrases import check_phrases, first_double
from sayfill.telling import as_lines, pairs_text, parted, prompt_text


class Desk:
    """What was told, and the dialogue that began last."""

    def __init__(self):
        self._fields = []
        self._rules = []
        self._phrases = []
        self._hearing = []
        self._talk = None
        self._lines = []

    def tell(self, line):
        """Do what the line tells, and answer it."""
        order = order_of(line)
        if order is None:
            raise BadLine(0)
        answer = self._answer(order)
        self._lines.append(line)
        return answer

    def log(self):
        """The lines that were answered."""
        return as_lines(self._lines)

    def _answer(self, order):
        """The answer to an order, also to one that is refused."""
        kind, told = order
        try:
            if kind == "begin":
                return self._begin()
            if kind in ("field", "rule", "phrase", "hear"):
                return self._take(kind, told)
            return self._ask(kind, told)
        except BadValue:
            return "no BadValue"
        except TooMany:
            return "no TooMany"
        except NothingThere:
            return "no NothingThere"

    def _take(self, kind, told):
        """Take one thing more for the next dialogue; what is asked of it first raises an error if it is wrong."""
        if kind == "field":
            Form(self._fields + [told], self._rules)
            self._fields.append(told)
        elif kind == "rule":
            Form(self._fields, self._rules + [told])
            self._rules.append(told)
        elif kind == "phrase":
            check_phrases(self._form(), self._phrases + [told])
            self._phrases.append(told)
        else:
            if not is_word(told[0]) or not is_word(told[1]):
                raise BadValue(0)
            self._hearing.append(told)
        return "ok"

    def _begin(self):
        """Begin a dialogue of all that was told."""
        self._talk = Dialogue(self._form(), self._phrases, self._hearing)
        return prompt_text(self._talk.prompt())

    def _ask(self, kind, told):
        """What is answered once a dialogue has begun."""
        if self._talk is None:
            raise NothingThere("begin")
        if kind == "say":
            return prompt_text(self._talk.say(told))
        if kind == "prompt":
            return prompt_text(self._talk.prompt())
        if kind == "facts":
            return pairs_text(self._talk.facts())
        if kind == "states":
            return str(self._states())
        double = first_double(self._form(), self._phrases)
        return "none" if double is None else "twice " + double

    def _states(self):
        """How many states the least machine has of the dialogue as it was when it began."""
        begun = Dialogue(self._talk.form(), self._talk.phrases(), self._talk.hearing())
        _, prompts, _ = least(compiled(begun))
        return len(prompts)

    def _form(self):
        """The form of all fields and rules told so far."""
        return Form(self._fields, self._rules)


def replayed(log):
    """A desk to which the lines of the log were told."""
    if not isinstance(log, str):
        raise BadLine(0)
    lines, rest = parted(log)
    desk = Desk()
    for at in range(len(lines)):
        try:
            desk.tell(lines[at])
        except BadLine:
            raise BadLine(at) from None
    if rest:
        raise BadLine(len(lines))
    return desk
