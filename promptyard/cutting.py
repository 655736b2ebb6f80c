"""Where examples and comments stand among the lines of a levelled text, and which lines are wrong.

Lines are without their line feeds here. A CUT is a triple of places in a list of lines, from
0 on: of the first source line, behind the last source line, and behind the last expected line.
"""

from promptyard.errors import BadText
from promptyard.lines import indent_of
from promptyard.stages import is_blank

PROMPT = ">>>"
FURTHER = "..."

# How many signs stand between the indent of an example and its source: a prompt and a space.
AHEAD = 4


def begins(line, prompt):
    """Tell whether a line begins with spaces, perhaps none, and a prompt."""
    return line.lstrip(" ").startswith(prompt)


def cuts_of(lines):
    """Return the cuts of all examples and comments, in order."""
    cuts = []
    at = 0
    while at < len(lines):
        if begins(lines[at], PROMPT):
            middle = behind_source(lines, at + 1)
            end = behind_expected(lines, middle)
            cuts.append((at, middle, end))
            at = end
        else:
            at = at + 1
    return cuts


def behind_source(lines, at):
    """Return the first place from at on that has no further source line."""
    while at < len(lines) and begins(lines[at], FURTHER):
        at = at + 1
    return at


def behind_expected(lines, at):
    """Return the first place from at on that has no expected line."""
    while at < len(lines) and not is_blank(lines[at]) and not begins(lines[at], PROMPT):
        at = at + 1
    return at


def refuse_wrong_lines(lines, cut):
    """Raise BadText for the first line of an example that is wrong, by its place alone."""
    start, middle, end = cut
    indent = indent_of(lines[start])
    behind_prompt = indent + len(PROMPT)
    for at in range(start, middle):
        if lines[at][behind_prompt:behind_prompt + 1] not in ("", " "):
            raise BadText(at + 1, "blank", lines[at][indent:behind_prompt])
    refuse_wrong_indents(lines, start + 1, middle, " " * indent + ".")
    refuse_wrong_indents(lines, middle, end, " " * indent)


def refuse_wrong_indents(lines, start, end, ahead):
    """Raise BadText for the first one of some lines that does not begin with what stands ahead."""
    for at in range(start, end):
        if not lines[at].startswith(ahead):
            raise BadText(at + 1, "indent", lines[at])
