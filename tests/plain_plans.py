"""Plans and witnesses told as the document has them, by trying all; and outcomes to ask about."""

import re
from random import Random

from helpers import plain_fillings, random_facts, random_parts


def random_outcomes(seed):
    """Fields, rules and outcomes of few words; the same for the same seed."""
    chance = Random(seed)
    fields, rules = random_parts(seed)
    rules = rules[:chance.randint(0, len(rules))]
    words = chance.sample(("yes", "no", "none", "maybe"), chance.randint(1, 4))
    many = chance.choice((0, 2, 4, 8))
    least = chance.choice((0, 1, 2, 2))
    outcomes = tuple((random_facts(chance, fields, least, 4), chance.choice(words)) for _ in range(many))
    return fields, rules, outcomes


def plain_outcome(outcomes, filling):
    """The outcome of a filling."""
    for facts, word in outcomes:
        if set(facts) <= set(filling):
            return word
    return "none"


class PlainSearch:
    """What plans and witnesses there are of a form with outcomes."""

    def __init__(self, fields, rules, outcomes):
        self.fields, self.outcomes = fields, outcomes
        self.rows = plain_fillings(fields, rules, ())
        self.depths, self.can = {}, {}

    def fitting(self, facts):
        return [row for row in self.rows if set(facts) <= set(row)]

    def words(self, facts):
        return {plain_outcome(self.outcomes, row) for row in self.fitting(facts)}

    def values(self, facts, name):
        told = [dict(row)[name] for row in self.fitting(facts)]
        return [value for value in dict(self.fields)[name] if value in told]

    def unasked(self, facts):
        return [name for name, _ in self.fields if name not in dict(facts)]

    def open(self, facts):
        return [name for name, _ in self.fields if len(self.values(facts, name)) > 1]

    def depth_with(self, facts, name):
        """The least depth of a plan that asks this first."""
        return 1 + max(self.depth(facts + ((name, value),)) for value in self.values(facts, name))

    def depth(self, facts=()):
        """The least depth of a plan."""
        key = frozenset(facts)
        if key not in self.depths:
            names = [] if len(self.words(facts)) < 2 else self.unasked(facts)
            self.depths[key] = min((self.depth_with(facts, name) for name in names), default=0)
        return self.depths[key]

    def plan(self, facts=()):
        """The lines of the best plan."""
        words = self.words(facts)
        if len(words) == 1:
            return ["tell " + words.pop()]
        name = next(name for name in self.unasked(facts) if self.depth_with(facts, name) == self.depth(facts))
        lines = ["ask " + name]
        for value in self.values(facts, name):
            lines += self.plan(facts + ((name, value),))
        return lines

    def can_show(self, left, facts=()):
        """Whether there is a node of a witness with so many questions left."""
        key = (left, frozenset(facts))
        if key not in self.can:
            if left == 0:
                self.can[key] = len(self.words(facts)) > 1
            else:
                ways = [[self.can_show(left - 1, facts + ((name, value),)) for value in self.values(facts, name)]
                        for name in self.open(facts)]
                self.can[key] = bool(ways) and all(any(way) for way in ways)
        return self.can[key]

    def witness(self, left, facts=()):
        """The lines of the witness with so many questions left."""
        if left == 0:
            rows = self.fitting(facts)
            words = [plain_outcome(self.outcomes, row) for row in rows]
            other = next(row for row, word in zip(rows, words) if word != words[0])
            return ["both " + " / ".join(" ".join(value for _, value in row) for row in (rows[0], other))]
        lines = ["node"]
        for name in self.open(facts):
            value = next(value for value in self.values(facts, name)
                         if self.can_show(left - 1, facts + ((name, value),)))
            lines += [f"if {name} {value}"] + self.witness(left - 1, facts + ((name, value),))
        return lines

    def check_plan(self, plan):
        """The depth of the plan, or ("wrong", number of the line)."""
        return _checked(plan, self._read_node)

    def check_witness(self, k, paper):
        """0, or ("wrong", number of the line)."""
        return _checked(paper, lambda lines: self._read_shown(lines, k - 1, ()))

    def _read_node(self, lines, facts=()):
        line = lines.take()
        if re.fullmatch("tell [a-z]{1,8}", line):
            lines.demand(self.words(facts) <= {line[5:]})
            return 0
        lines.demand(line.startswith("ask ") and line[4:] in self.unasked(facts))
        below = [self._read_node(lines, facts + ((line[4:], value),)) for value in self.values(facts, line[4:])]
        return 1 + max(below, default=0)

    def _read_shown(self, lines, left, facts):
        line = lines.take()
        if left == 0:
            told = {" ".join(value for _, value in row): plain_outcome(self.outcomes, row)
                    for row in self.fitting(facts)}
            lines.demand(line in [f"both {one} / {two}" for one in told for two in told if told[one] != told[two]])
            return 0
        lines.demand(line == "node" and self.open(facts))
        for name in self.open(facts):
            answer = lines.take()
            lines.demand(answer in [f"if {name} {value}" for value in self.values(facts, name)])
            self._read_shown(lines, left - 1, facts + ((name, answer.split(" ")[2]),))
        return 0


class Wrong(Exception):
    """The line of this number is wrong."""


class Lines:
    """The lines of a paper, read one by one."""

    def __init__(self, text):
        self.lines, self.at = re.findall("[^\n]*\n", text), 0
        self.whole = "".join(self.lines) == text

    def take(self):
        if self.at == len(self.lines):
            raise Wrong(self.at)
        self.at += 1
        return self.lines[self.at - 1][:-1]

    def demand(self, holds):
        if not holds:
            raise Wrong(self.at - 1)


def _checked(text, read):
    lines = Lines(text)
    try:
        told = read(lines)
        if lines.at < len(lines.lines) or not lines.whole:
            raise Wrong(lines.at)
    except Wrong as wrong:
        return ("wrong", wrong.args[0])
    return told


def spoiled(chance, lines, words):
    """A text of the lines in which something was changed, or perhaps nothing."""
    lines = list(lines)
    at = chance.randrange(len(lines))
    parts = lines[at].split(" ")
    kind = chance.randrange(12)
    if kind == 0:
        del lines[at]
    elif kind == 1:
        lines.insert(at, chance.choice(lines))
    elif kind == 2:
        other = chance.randrange(len(lines))
        lines[at], lines[other] = lines[other], lines[at]
    elif kind in (3, 4, 5, 6):
        parts[chance.randrange(len(parts))] = chance.choice(words)
        lines[at] = " ".join(parts)
    elif kind == 7:
        lines[at] = lines[at].replace(" ", "  ", 1)
    elif kind == 8:
        lines[at] = chance.choice((" " + lines[at], lines[at] + " ", "", lines[at].upper(), lines[at] + " x"))
    elif kind == 9:
        lines = lines[:at]
    elif kind == 10:
        return "\n".join(lines)
    return "".join(line + "\n" for line in lines)
