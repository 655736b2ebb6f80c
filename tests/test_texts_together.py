"""[7] to [15] over many small texts: what holds of joined and parsed, and other readers of the same texts."""

import doctest
import functools
import itertools
import random
import re
import unittest

from promptyard.errors import BadText
from promptyard.scripts import script_of
from promptyard.texts import Comment, Example, examples_of, joined, levelled, parsed

# Lines of all sorts that matter, at several indents, with tabs.
LINES = [
    "", " ", "   ", "\t", "a", "  b", "\tc\td", "... e", "  ...f", "#",
    ">>>", ">>> ", ">>>  ", ">>> a", "  >>> b # doctest:+SKIP", "    >>> c", "\t>>>\td", ">>>e", ">>> # f",
    "...", "... ", "  ... g", "\t...", "    ... h", "...i", "Traceback (most recent call last): ", "  Traceback (innermost last):",
]

# Such as are right at once, so that many texts of more lines are.
RIGHT = [
    "", " ", "a", " b", "\tc", ">>> a", ">>>", ">>> ", "... b", "...", "... ", "\t>>> a", "\t... b", "\t...", "\t", "\t1",
    "  >>> a # doctest: -SKIP", "  ... ", "  1 ", ">>> # a", "... # b", "Traceback (innermost last):", "_x", "  Traceback (innermost last): ",
]


def small_texts():
    """All texts of up to two lines and many of more, with a line feed at the end and without."""
    rows = [found for size in (1, 2) for found in itertools.product(LINES, repeat=size)]
    chance = random.Random(7)
    rows += [chance.choices(LINES, k=chance.randrange(3, 5)) for _ in range(6000)]
    rows += [chance.choices(RIGHT, k=chance.randrange(3, 8)) for _ in range(9000)]
    for lines in rows:
        yield "\n".join(lines)
        yield "\n".join(lines) + "\n"


TEXTS = sorted(set(small_texts()))


@functools.cache
def read(text):
    """The pieces of a text, or None if it is refused."""
    try:
        return parsed(text)
    except BadText:
        return None


def widened(line):
    """A line with spaces for its tabs, sign by sign."""
    found = ""
    for sign in line:
        found += sign if sign != "\t" else " " * (8 - len(found) % 8)
    return found


def flattened(text):
    """What levelled returns, by other means."""
    lines = [widened(line) for line in text.split("\n")]
    least = min((re.match(" *", line).end() for line in lines if line.strip()), default=0)
    return "\n".join(re.sub("^ {0,%d}" % least, "", line) for line in lines)


BLOCK = re.compile(
    r"^(?P<source>(?P<indent> *)>>>.*\n(?: *\.\.\..*\n)*)(?P<want>(?:(?! *\n)(?! *>>>).*\n)*)", re.MULTILINE,
)

DIRECTIVE = re.compile(r"#[ \t]*doctest:([^'\"\n]*)$")


class Wrong(Exception):
    """What the other reader raises."""


def faults(number, indent, source, want):
    """Raise the first fault of the lines of an example whose first line has a number."""
    for at, line in enumerate(source):
        if not re.match("(.{%d}( |$)|.{0,%d}$)" % (indent + 3, indent + 2), line):
            raise Wrong(number + at, "blank", line[indent:indent + 3])
    for at, line in enumerate(source[1:], 1):
        if not re.match(r" {%d}\." % indent, line):
            raise Wrong(number + at, "indent", line)
    for at, line in enumerate(want, len(source)):
        if not re.match(" {%d}" % indent, line):
            raise Wrong(number + at, "indent", line)


def other_pieces(text):
    """The pieces of a text as parsed returns them, read by patterns over the whole text."""
    level = flattened(text)
    ended = level if level.endswith("\n") or not level else level + "\n"
    pieces, behind = [], 0
    for match in BLOCK.finditer(ended):
        pieces.append(level[behind:match.start()])
        behind = match.end()
        pieces.append(block(match, ended.count("\n", 0, match.start()) + 1))
    return [piece for piece in pieces + [level[behind:]] if piece != ""]


def block(match, number):
    """The example or the comment that a pattern has found."""
    indent = len(match["indent"])
    source, want = match["source"].splitlines(), match["want"].splitlines()
    faults(number, indent, source, want)
    source = [line[indent + 4:] for line in source]
    want = "".join(line[indent:] + "\n" for line in want)
    options = {}
    for line in source:
        for words in DIRECTIVE.findall(line):
            for word in words.replace(",", " ").split():
                options[word[1:]] = word[0] == "+"
    if all(re.match(" *(#|$)", line) for line in source):
        if options:
            raise Wrong(number, "no example", "\n".join(source) + "\n")
        return Comment("\n".join(source) + "\n", want, line=number, indent=indent)
    error = re.match(r"Traceback \((?:most recent call|innermost) last\): *\n(?:\W.*\n)*(\w(?s:.*))", want)
    parts = {"error": error and error[1], "line": number, "indent": indent, "options": options}
    return Example("\n".join(source) + "\n", want, **parts)


def told(text):
    """What the program and the other reader say of a text, each."""
    try:
        here = parsed(text)
    except BadText as error:
        here = (error.line, error.reason, error.found)
    try:
        there = other_pieces(text)
    except Wrong as error:
        there = error.args
    return here, there


class Together(unittest.TestCase):
    def test_there_are_texts_of_all_kinds(self):
        self.assertGreater(len(TEXTS), 25000)
        right = [text for text in TEXTS if read(text) is not None]
        self.assertGreater(len(right), 10000)
        kinds = {tuple(type(piece).__name__ for piece in read(text)) for text in right}
        self.assertGreater(len(kinds), 80)

    def test_another_reader_reads_the_same(self):
        for text in TEXTS:
            here, there = told(text)
            self.assertEqual(here, there, text)

    def test_levelled_by_other_means_and_again(self):
        for text in TEXTS:
            level = levelled(text)
            self.assertEqual(level, flattened(text), repr(text))
            self.assertEqual(levelled(level), level, repr(text))

    def test_joined_is_levelled_but_for_what_is_said(self):
        for text in TEXTS:
            if read(text) is None:
                continue
            level = levelled(text)
            if level and not level.endswith("\n") and not isinstance(read(text)[-1], str):
                level += "\n"
            level = BLOCK.sub(lambda match: re.sub(r"(?m)^( *(?:>>>|\.\.\.)) $", r"\1", match["source"]) + match["want"], level)
            self.assertEqual(joined(read(text)), level, repr(text))

    def test_joined_is_parsed_to_equal_pieces(self):
        for text in TEXTS:
            pieces = read(text)
            if pieces is not None:
                again = joined(pieces)
                self.assertEqual(parsed(again), pieces, repr(text))
                self.assertEqual(joined(parsed(again)), again, repr(text))
                self.assertEqual(levelled(again), again, repr(text))

    def test_parsed_of_what_is_levelled_is_the_same(self):
        for text in TEXTS:
            self.assertEqual(read(levelled(text)), read(text), repr(text))

    def test_strings_are_not_empty_nor_behind_one_another(self):
        for text in TEXTS:
            pieces = read(text) or []
            self.assertNotIn("", pieces)
            for one, two in zip(pieces, pieces[1:]):
                self.assertFalse(isinstance(one, str) and isinstance(two, str), repr(text))

    def test_examples_are_those_among_the_pieces(self):
        for text in TEXTS:
            if read(text) is not None:
                self.assertEqual(examples_of(text), [piece for piece in read(text) if type(piece) is Example])


def plain(text):
    """Whether a text has none of what is otherwise here: comments of several lines, sources with an empty last one."""
    pieces = [piece for piece in read(text) or [] if not isinstance(piece, str)]
    return not any(piece.source.endswith("\n\n") or isinstance(piece, Comment) and "\n" in piece.source[:-1] for piece in pieces)


class BesideDoctest(unittest.TestCase):
    """Python's own module, where it is the same."""

    def test_examples(self):
        reader = doctest.DocTestParser()
        names = {number: name for name, number in doctest.OPTIONFLAGS_BY_NAME.items()}
        for text in filter(plain, TEXTS):
            if read(text) is None:
                with self.assertRaises(ValueError):
                    reader.parse(text)
                continue
            here = [(each.source, each.want, each.error, each.line, each.options) for each in examples_of(text)]
            there = [
                (each.source, each.want, each.exc_msg, each.lineno + 1, {names[flag]: on for flag, on in each.options.items()})
                for each in reader.parse(text) if isinstance(each, doctest.Example)
            ]
            self.assertEqual(here, there, repr(text))

    def test_scripts(self):
        for text in filter(plain, TEXTS):
            if read(text) is not None:
                # Python leaves out a last line that has no line feed.
                there = doctest.script_from_examples(flattened(text) + ("" if text.endswith("\n") else "\n"))
                self.assertEqual(script_of(text), there, repr(text))


if __name__ == "__main__":
    unittest.main()
