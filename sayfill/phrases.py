"""Phrases: texts, each with the act that it stands for, and the readings of an utterance."""

from heapq import heappop, heappush

from sayfill.basics import are_facts, is_pair, is_row, is_text, words_of
from sayfill.errors import BadValue, TooMany

MOST_PHRASES = 60
MOST_WORDS_OF_TEXT = 6
MOST_WORDS_SAID = 30
MOST_READINGS = 200


def check_phrases(form, phrases):
    """Raise an error unless these are phrases of the form."""
    if not is_row(phrases) or not 1 <= len(phrases) <= MOST_PHRASES:
        raise BadValue(1)
    found = {}
    for phrase in phrases:
        if not _is_phrase(form.fields(), phrase):
            raise BadValue(1)
        text, act = phrase
        kept = (text, tuple(act))
        if kept in found:
            raise BadValue(1)
        found[kept] = True


def meanings(form, phrases, utterance):
    """All readings of the utterance, shorter ones ahead, then ordered by the acts' places."""
    check_phrases(form, phrases)
    if not isinstance(utterance, str):
        raise BadValue(2)
    return readings_of(phrases, utterance)


def readings_of(phrases, utterance):
    """The readings of a string, of what surely are phrases."""
    words = words_of(utterance)
    if len(words) > MOST_WORDS_SAID:
        raise TooMany("words")
    acts = acts_once(phrases)
    texts = [(text.split(" "), acts.index(tuple(act))) for text, act in phrases]
    return tuple([tuple([acts[number] for number in row]) for row in _rows(_steps(texts, words))])


def first_double(form, phrases):
    """The first utterance that comes of two unlike rows of phrases, or None."""
    check_phrases(form, phrases)
    texts = [tuple(text.split(" ")) for text, _ in phrases]
    queue = []
    for entry in _unlike_beginnings(texts):
        heappush(queue, entry)
    done = {}
    while queue:
        _, words, rest = heappop(queue)
        if not rest:
            return " ".join(words)
        # What comes behind hangs on the rest alone, and the first words that leave it come out of the queue first.
        if rest not in done:
            done[rest] = True
            for entry in _one_text_more(texts, words, rest):
                heappush(queue, entry)
    return None


def acts_once(phrases):
    """The acts of the phrases, each once, at its first phrase's place among them."""
    acts = {}
    for _, act in phrases:
        acts[tuple(act)] = True
    return list(acts)


def _is_phrase(fields, phrase):
    """Whether this is a pair of a text and an act of a form with the fields."""
    if not is_pair(phrase) or not is_text(phrase[0]):
        return False
    return len(phrase[0].split(" ")) <= MOST_WORDS_OF_TEXT and _is_act(fields, phrase[1])


def _is_act(fields, act):
    """Whether this is an act of a form with the fields."""
    if not is_row(act) or len(act) == 0:
        return False
    kind = act[0]
    if kind == "yes" or kind == "no":
        return len(act) == 1
    if kind == "drop":
        return len(act) == 2 and act[1] in [name for name, _ in fields]
    return (kind == "set" or kind == "not") and are_facts(fields, (act[1:],))


def _steps(texts, words):
    """For each place in the words, the pairs (number of an act, the place behind its text) to go on with.

    The texts are pairs (words, number of the act). Only such steps are told as the end can be reached behind.
    """
    steps = [[] for _ in words] + [[]]
    reaches_end = [False for _ in words] + [True]
    for place in reversed(range(len(words))):
        for text, number in texts:
            behind = place + len(text)
            if words[place:behind] == text and reaches_end[behind]:
                steps[place].append((number, behind))
                reaches_end[place] = True
    return steps


def _rows(steps):
    """The rows of numbers on the ways to the end, each once, shorter ones ahead, then ordered by the numbers."""
    end = len(steps) - 1
    rows = []
    # Ways of the same numbers go on as one: there may be very many ways with few rows.
    begun = [((), [0])]
    while begun:
        rows.extend([row for row, places in begun if end in places])
        begun = [longer for row, places in begun for longer in _one_number_more(steps, row, places)]
        # From each row that is begun the end is reached, so it gives one more at least.
        if len(rows) + len(begun) > MOST_READINGS:
            raise TooMany("readings")
    return rows


def _one_number_more(steps, row, places):
    """The rows of one number more, by their last ones, each with the places that it leads to."""
    found = {}
    for place in places:
        for number, behind in steps[place]:
            if number not in found:
                found[number] = {}
            found[number][behind] = True
    return [(row + (number,), list(found[number])) for number in sorted(found)]


def _unlike_beginnings(texts):
    """The beginnings of two rows of phrases, of which one text is the other one or begins it.

    Each is told as how many words there are, the words, and the rest that only one of the rows has.
    """
    found = []
    for at in range(len(texts)):
        for other in range(len(texts)):
            short, words = texts[at], texts[other]
            if at != other and words[:len(short)] == short:
                found.append((len(words), words, words[len(short):]))
    return found


def _one_text_more(texts, words, rest):
    """What comes of the words if the row that lacks the rest goes on with a text, told as beginnings are."""
    found = []
    for text in texts:
        if text[:len(rest)] == rest[:len(text)]:
            longer = words + text[len(rest):]
            # One of these two is empty: the row that lacks something may be another one then.
            found.append((len(longer), longer, rest[len(text):] + text[len(rest):]))
    return found
