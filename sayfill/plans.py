"""Plans: which questions settle an outcome, how many there must be, and what shows that fewer do not do."""

from sayfill.basics import are_facts, in_tuples
from sayfill.errors import BadValue, NothingThere, TooMany
from sayfill.filling import fillings, is_filling
from sayfill.outcomes import Endings, check_outcomes, check_witnessed, outcome_of
from sayfill.telling import as_lines, values_text

MOST_FILLINGS = 100


def outcome(form, outcomes, filling):
    """The word of the first outcome whose facts the filling fits, "none" if it fits none."""
    check_outcomes(form, outcomes)
    if not is_filling(form, filling):
        raise BadValue(2)
    return outcome_of(in_tuples(outcomes), in_tuples(filling))


def settled(form, outcomes, facts):
    """The outcome that all fillings have that fit the facts, or None."""
    check_outcomes(form, outcomes)
    if not are_facts(form.fields(), facts):
        raise BadValue(2)
    kept = in_tuples(outcomes)
    words = [outcome_of(kept, row) for row in fillings(form, facts)]
    return words[0] if words and words.count(words[0]) == len(words) else None


def least_questions(form, outcomes):
    """The least depth of a plan that settles the outcome."""
    search = _search(form, outcomes)
    return search.depth(search.whole)


def best_plan(form, outcomes):
    """The plan of least depth that asks the first field with which this can be, at each of its nodes."""
    search = _search(form, outcomes)
    return as_lines(_plan_lines(search, search.whole))


def witness(form, outcomes, k):
    """What shows that no plan of a depth less than k settles the outcome."""
    check_outcomes(form, outcomes)
    check_witnessed(k)
    search = _search(form, outcomes)
    if search.depth(search.whole) < k:
        raise NothingThere("witness")
    return as_lines(_witness_lines(search, search.whole, k - 1))


class Search:
    """What is found of the lots of the fillings of a form."""

    def __init__(self, endings):
        self.endings = endings
        self.table = endings.table
        self.whole = endings.table.fitting(())
        self._depths = {}

    def depth(self, lot):
        """The least depth of a plan that settles the outcome of the lot."""
        if lot not in self._depths:
            self._depths[lot] = self._depth_found(lot)
        return self._depths[lot]

    def depth_below(self, lot, field):
        """The least depth of the rest of a plan if the field is asked first."""
        return max([self.depth(part) for _, part in self.table.parts(lot, field)])

    def _depth_found(self, lot):
        """The depth, found by those of lesser lots."""
        if self.endings.word_of(lot) is not None:
            return 0
        # To ask a field with one value only leaves the same lot, so it is of no use.
        return 1 + min([self.depth_below(lot, field) for field in self.table.open_fields(lot)])


def _search(form, outcomes):
    """The search over all fillings, of which there must be one and may not be too many."""
    check_outcomes(form, outcomes)
    endings = Endings(form, outcomes)
    many = len(endings.table.rows())
    if many == 0:
        raise NothingThere("filling")
    if many > MOST_FILLINGS:
        raise TooMany("fillings")
    return Search(endings)


def _plan_lines(search, lot):
    """The lines of the best plan of the lot."""
    word = search.endings.word_of(lot)
    if word is not None:
        return ["tell " + word]
    below = search.depth(lot) - 1
    field = [name for name in search.table.open_fields(lot) if search.depth_below(lot, name) == below][0]
    lines = ["ask " + field]
    for _, part in search.table.parts(lot, field):
        lines.extend(_plan_lines(search, part))
    return lines


def _witness_lines(search, lot, left):
    """The lines of the witness that more questions must be asked of the lot than are left."""
    if left == 0:
        first, other = search.endings.first_unlike(lot)
        return ["both " + values_text(first) + " / " + values_text(other)]
    lines = ["node"]
    for field in search.table.open_fields(lot):
        # There is such a value of each field, or a plan of less depth could ask this one first.
        enough = [(value, part) for value, part in search.table.parts(lot, field) if search.depth(part) >= left]
        answer, kept = enough[0]
        lines.append("if " + field + " " + answer)
        lines.extend(_witness_lines(search, kept, left - 1))
    return lines
