"""Texts that hold examples behind prompts, and the pieces that they consist of."""

from promptyard.cutting import AHEAD, FURTHER, PROMPT, cuts_of, refuse_wrong_lines
from promptyard.directives import bare_of, is_remark, options_of
from promptyard.errors import BadText
from promptyard.flags import require_flags
from promptyard.lines import fed, indent_of, kept_lines, lines_of
from promptyard.stages import is_blank

# Tabs go up to the next column that is a multiple of this.
TAB = 8

# With what the first line of a traceback begins; nothing but spaces stands behind.
HEADERS = ("Traceback (most recent call last):", "Traceback (innermost last):")


class Example:
    """A source that is run, and what it has to tell."""

    def __init__(self, source, want="", *, error=None, line=1, indent=0, options=None):
        told = {} if options is None else options
        require_flags(told)
        self.source = fed(source)
        self.want = fed(want) if want else want
        self.error = None if error is None else fed(error)
        self.line = line
        self.indent = indent
        self.options = dict(told)
        self.bare = bare_of(self.source)

    def __eq__(self, other):
        return (
            isinstance(other, Example)
            and self.source == other.source
            and self.want == other.want
            and self.error == other.error
            and self.line == other.line
            and self.indent == other.indent
            and self.options == other.options
            and self.bare == other.bare
        )


class Comment:
    """A source in which nothing is to be run."""

    def __init__(self, source, want="", *, line=1, indent=0):
        self.source = fed(source)
        self.want = fed(want) if want else want
        self.line = line
        self.indent = indent

    def __eq__(self, other):
        return (
            isinstance(other, Comment)
            and self.source == other.source
            and self.want == other.want
            and self.line == other.line
            and self.indent == other.indent
        )


def widened(text):
    """Return text with spaces for its tabs, up to the next column of those that tabs go to."""
    return text.expandtabs(TAB)


def levelled(text):
    """Return text with spaces for its tabs, and without the least indent of its lines."""
    lines = widened(text).split("\n")
    least = min([indent_of(line) for line in lines if not is_blank(line)], default=0)
    return "\n".join([line[least:] for line in lines])


def parsed(text):
    """Return the pieces of a text, in order: strings, examples and comments."""
    level = levelled(text)
    kept = kept_lines(level)
    lines = lines_of(level)
    pieces = []
    behind = 0
    for cut in cuts_of(lines):
        if behind < cut[0]:
            pieces.append("".join(kept[behind:cut[0]]))
        pieces.append(piece_at(lines, cut))
        behind = cut[2]
    if behind < len(kept):
        pieces.append("".join(kept[behind:]))
    return pieces


def piece_at(lines, cut):
    """Return the example or the comment of a cut, or raise BadText."""
    refuse_wrong_lines(lines, cut)
    start, middle, end = cut
    indent = indent_of(lines[start])
    source = "".join([line[indent + AHEAD:] + "\n" for line in lines[start:middle]])
    want = "".join([line[indent:] + "\n" for line in lines[middle:end]])
    options = options_of(source, start + 1)
    if not is_remark(source):
        return Example(source, want, error=error_of(want), line=start + 1, indent=indent, options=options)
    if options:
        raise BadText(start + 1, "no example", source)
    return Comment(source, want, line=start + 1, indent=indent)


def examples_of(text):
    """Return the examples of a text alone."""
    return [piece for piece in parsed(text) if isinstance(piece, Example)]


def error_of(want):
    """Return the error text of a want that is a traceback, or None."""
    lines = kept_lines(want)
    if not lines or lines[0].removesuffix("\n").rstrip(" ") not in HEADERS:
        return None
    for at in range(1, len(lines)):
        if is_word_sign(lines[at][0]):
            return "".join(lines[at:])
    return None


def is_word_sign(sign):
    """Tell whether a sign is a letter, a digit or _."""
    return sign == "_" or sign.isalnum()


def joined(pieces):
    """Return the text of pieces."""
    return "".join([piece if isinstance(piece, str) else written(piece) for piece in pieces])


def written(piece):
    """Return the source lines and the expected lines of an example or a comment, as one text."""
    sources = lines_of(piece.source)
    prompts = [PROMPT] + [FURTHER] * (len(sources) - 1)
    rows = [f"{prompt} {line}" if line else prompt for prompt, line in zip(prompts, sources)]
    return "".join([" " * piece.indent + row + "\n" for row in rows + lines_of(piece.want)])
