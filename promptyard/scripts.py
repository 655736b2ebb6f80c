"""Texts as scripts: the sources of their examples, and all else as comments."""

from promptyard.lines import lines_of
from promptyard.stages import BLANKS
from promptyard.texts import Comment, parsed

# What is written of a line of a string of which nothing is left.
NOTHING = "#"


def script_of(text):
    """Return the script of a text."""
    parts = [part for piece in parsed(text) for part in parts_of(piece)]
    while parts and parts[-1] == NOTHING:
        parts.pop()
    while parts and parts[0] == NOTHING:
        parts.pop(0)
    return "\n".join(parts) + "\n"


def parts_of(piece):
    """Return the parts of the script that a piece makes: whole sources, and lines.

    A source is never a NOTHING, as it would be a comment then.
    """
    if isinstance(piece, str):
        return [remark_of(line.rstrip(BLANKS)) for line in lines_of(piece)]
    if isinstance(piece, Comment):
        return []
    source = piece.source.removesuffix("\n")
    if not piece.want:
        return [source]
    return [source, "# Expected:"] + ["## " + line for line in lines_of(piece.want)]


def remark_of(line):
    """Return the line of a script for a line of a string."""
    return "# " + line if line else NOTHING
