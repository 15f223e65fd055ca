"""Which states of a machine say the same for all rows of acts, by Hopcroft's way of parting them."""


def classes(prompts, rows):
    """For each state a number, the same one just for states that say the same for all rows of acts."""
    parted = Parted(prompts)
    ways = _ways_in(rows)
    while parted.waiting:
        cause = parted.next_cause()
        for sources in ways:
            hits = parted.hits(sources, cause)
            for number, states in hits:
                parted.part(number, states)
    return parted.class_of


def _ways_in(rows):
    """For each act: the states that are reached by it, each with the list of those from which it is."""
    ways = [{} for _ in rows[0]]
    for state in range(len(rows)):
        for act in range(len(ways)):
            ways[act].setdefault(rows[state][act], []).append(state)
    return ways


class Parted:
    """The states in classes, at first by what they say, which are parted further and further.

    A class is waiting if others may still have to be parted by which of their states lead into it.
    """

    def __init__(self, prompts):
        number_of = {}
        self.class_of = []
        self.members = []
        for state in range(len(prompts)):
            number = number_of.setdefault(prompts[state], len(number_of))
            if number == len(self.members):
                self.members.append({})
            self.members[number][state] = True
            self.class_of.append(number)
        self.waiting = list(range(len(self.members)))
        self.is_waiting = [True for _ in self.members]

    def next_cause(self):
        """Take a class that is waiting: its states as they are now, for it may be parted itself meanwhile."""
        number = self.waiting.pop()
        self.is_waiting[number] = False
        return list(self.members[number])

    def hits(self, sources, cause):
        """The classes with states that lead into the cause, each with these states."""
        found = {}
        for state in cause:
            for source in sources.get(state, []):
                found.setdefault(self.class_of[source], []).append(source)
        return list(found.items())

    def part(self, number, states):
        """Make the states a class of their own, unless they are all of their class."""
        rest = self.members[number]
        if len(states) == len(rest):
            return
        new = len(self.members)
        self.members.append({state: True for state in states})
        for state in states:
            del rest[state]
            self.class_of[state] = new
        # If the whole class is done, one of its halves is enough, and the lesser one is cheaper.
        is_new_due = self.is_waiting[number] or len(states) <= len(rest)
        self.is_waiting.append(is_new_due)
        if is_new_due:
            self.waiting.append(new)
        else:
            self.waiting.append(number)
            self.is_waiting[number] = True
