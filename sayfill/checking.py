"""Checking: whether a plan settles an outcome, and whether a witness shows that none of less depth does."""

from sayfill.basics import is_word
from sayfill.errors import BadPaper
from sayfill.outcomes import Endings, check_outcomes, check_witnessed
from sayfill.telling import parted, values_text


def plan_holds(form, outcomes, plan):
    """The depth of the plan, if it settles the outcome."""
    check_outcomes(form, outcomes)
    reader = PlanReader(form, outcomes)
    _read(reader, plan)
    return reader.deepest


def witness_holds(form, outcomes, k, paper):
    """True, if the paper is a witness for k."""
    check_outcomes(form, outcomes)
    check_witnessed(k)
    _read(WitnessReader(form, outcomes, k), paper)
    return True


def _read(reader, paper):
    """Let the reader read all the lines, the kids of each node behind it."""
    if not isinstance(paper, str):
        raise BadPaper(0)
    lines, rest = parted(paper)
    # What is due next stands last.
    due = [reader.root()]
    for at in range(len(lines)):
        below = reader.below(due.pop(), lines[at]) if due else None
        if below is None:
            raise BadPaper(at)
        due.extend(below[::-1])
    if due or rest:
        raise BadPaper(len(lines))


class PlanReader:
    """Reads the lines of a plan.

    Due is a node: the lot of the fillings that fit the answers on the way, and the fields that are asked on it.
    """

    def __init__(self, form, outcomes):
        self._endings = Endings(form, outcomes)
        self._fields = [name for name, _ in form.fields()]
        self.deepest = 0

    def root(self):
        """What is due first."""
        return (self._endings.table.fitting(()), ())

    def below(self, due, line):
        """What is due behind the line, or None if the line is wrong."""
        lot, asked = due
        kind, _, word = line.partition(" ")
        if kind == "tell":
            return [] if is_word(word) and self._endings.is_so(lot, word) else None
        if kind != "ask" or word not in self._fields or word in asked:
            return None
        now_asked = asked + (word,)
        self.deepest = max(self.deepest, len(now_asked))
        return [(part, now_asked) for _, part in self._endings.table.parts(lot, word)]


class WitnessReader:
    """Reads the lines of a witness.

    Due is the lot of the fillings that fit the answers on the way, how many questions are left, and the field of which
    a value is to be told, or None for a node.
    """

    def __init__(self, form, outcomes, k):
        self._endings = Endings(form, outcomes)
        self._table = self._endings.table
        self._lot_of = {values_text(row): self._table.fitting(row) for row in self._table.rows()}
        self._left = k - 1

    def root(self):
        """What is due first."""
        return (self._table.fitting(()), self._left, None)

    def below(self, due, line):
        """What is due behind the line, or None if the line is wrong."""
        lot, left, field = due
        if field is not None:
            return self._below_value(lot, left, field, line)
        if left == 0:
            return [] if self._tells_unlike(lot, line) else None
        names = self._table.open_fields(lot)
        if line != "node" or not names:
            return None
        return [(lot, left, name) for name in names]

    def _below_value(self, lot, left, field, line):
        """What is due behind a line that should tell a value of the field."""
        for value, part in self._table.parts(lot, field):
            if line == "if " + field + " " + value:
                return [(part, left - 1, None)]
        return None

    def _tells_unlike(self, lot, line):
        """Whether the line tells two fillings of the lot with unlike outcomes."""
        kind, _, told = line.partition(" ")
        words = [self._endings.word_of(lot & self._lot_of.get(text, 0)) for text in told.split(" / ")]
        return kind == "both" and len(words) == 2 and None not in words and words[0] != words[1]
