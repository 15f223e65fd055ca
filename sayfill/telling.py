"""How things are told in lines: pairs, prompts, fillings; and the lines of a text."""


def pairs_text(pairs):
    """The pairs as they are told, parted by commas."""
    return ", ".join([name + " " + value for name, value in pairs])


def prompt_text(prompt):
    """What a dialogue says, as a line without a line feed."""
    kind = prompt[0]
    if kind == "clash" or kind == "done":
        return " ".join([kind, pairs_text(prompt[1])]) if prompt[1] else kind
    return " ".join(prompt)


def values_text(filling):
    """The values of a filling, with blanks between."""
    return " ".join([value for _, value in filling])


def as_lines(lines):
    """The lines as one text, each with a line feed."""
    return "".join([line + "\n" for line in lines])


def parted(text):
    """The lines of the text that have a line feed, and what stands behind the last of these."""
    lines = text.split("\n")
    return (lines[:-1], lines[-1])
