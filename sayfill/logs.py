"""Logs: what was said in a dialogue, line by line."""

from sayfill.basics import is_row, is_small, words_of
from sayfill.dialogues import Dialogue
from sayfill.errors import BadLog, BadValue
from sayfill.telling import as_lines, parted, prompt_text


def log_of(form, phrases, hearing, utterances):
    """The log of a dialogue in which this is said."""
    talk = Dialogue(form, phrases, hearing)
    if not is_row(utterances) or not all([_is_utterance(utterance) for utterance in utterances]):
        raise BadValue(3)
    lines = [prompt_text(talk.prompt())]
    for utterance in utterances:
        lines.append(" ".join(["user"] + words_of(utterance)))
        lines.append(prompt_text(talk.say(utterance)))
    return as_lines(lines)


def log_holds(form, phrases, hearing, log):
    """How many utterances there are, if this is the log of some."""
    talk = Dialogue(form, phrases, hearing)
    if not isinstance(log, str):
        raise BadLog(0)
    lines, rest = parted(log)
    # The prompt that must stand here, or None for a line of the user.
    due = prompt_text(talk.prompt())
    many = 0
    for at in range(len(lines)):
        if due is None:
            if not _is_user_line(lines[at]):
                raise BadLog(at)
            due = prompt_text(talk.say(lines[at][len("user"):]))
            many += 1
        elif lines[at] == due:
            due = None
        else:
            raise BadLog(at)
    if due is not None or rest:
        raise BadLog(len(lines))
    return many


def _is_utterance(thing):
    """Whether this is a string of small letters and blanks."""
    return isinstance(thing, str) and all([is_small(word) for word in words_of(thing)])


def _is_user_line(line):
    """Whether the line tells an utterance."""
    words = line.split(" ")
    return words[0] == "user" and all([is_small(word) for word in words[1:]])
