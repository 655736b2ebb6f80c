"""The lines of texts."""


def kept_lines(text):
    """Return the lines of a text, each with its line feed, the last one perhaps without."""
    *lines, rest = text.split("\n")
    kept = [line + "\n" for line in lines]
    return kept + [rest] if rest else kept


def lines_of(text):
    """Return the lines of a text without their line feeds."""
    return [line.removesuffix("\n") for line in kept_lines(text)]


def fed(text):
    """Return text with a line feed put behind it, if it does not end with one."""
    return text if text.endswith("\n") else text + "\n"


def indent_of(line):
    """Return how many spaces a line begins with."""
    return len(line) - len(line.lstrip(" "))
