"""Numbers for states in the sequence in which they are found."""

from sayfill.errors import TooMany

MOST_STATES = 3000


def numbered(begin, behind):
    """What is found from begin on, and for each the tuple of the numbers of what behind(it) tells, in its sequence.

    What is found is numbered from 0 on, thing by thing.
    """
    found = [begin]
    number_of = {begin: 0}
    rows = []
    while len(rows) < len(found):
        things = behind(found[len(rows)])
        row = []
        for thing in things:
            if thing not in number_of:
                if len(found) == MOST_STATES:
                    raise TooMany("states")
                number_of[thing] = len(found)
                found.append(thing)
            row.append(number_of[thing])
        rows.append(tuple(row))
    return (tuple(found), tuple(rows))
