"""Texts that are rewritten so that their examples pass."""

from itertools import combinations

from promptyard.cutting import cuts_of
from promptyard.directives import directive_of, is_option_word
from promptyard.errors import BadOptions, BadOutput
from promptyard.flags import COMPARING, IGNORE_DETAIL, in_force, require_flags
from promptyard.lines import fed, indent_of, kept_lines, lines_of
from promptyard.outcomes import SUCCESS, has_failed, outcome_of, word_of
from promptyard.plays import require_play, traceback_text
from promptyard.stages import MARK, is_blank
from promptyard.texts import examples_of, levelled, piece_at, widened
from promptyard.values import held_names, is_text


class Rehearsal:
    """An example of a text, the flags in force for it, and how it ended when it was run."""

    def __init__(self, example, flags, outcome):
        self.example = example
        self.flags = flags
        self.word, self.got, self.error = outcome

    def is_wrong(self):
        """Tell whether the example has failed."""
        return has_failed(self.word)

    def told(self):
        """Return what the example has told: the traceback of its error, or what was got."""
        return self.got if self.error is None else traceback_text(self.error)

    def passes_as(self, example, flags):
        """Tell whether another example would have passed with some flags, had it told the same."""
        return word_of(example, self.got, self.error, flags) == SUCCESS


def rehearsed(text, play, names, flags):
    """Run the examples of a text, one after another, and return the rehearsal of each of them."""
    examples = examples_of(text)
    require_play(play)
    now = held_names(names)
    require_flags(flags)
    found = []
    for example in examples:
        force = in_force(flags, example.options)
        found.append(Rehearsal(example, force, outcome_of(example, play, now, force)))
    return found


def rewritten(text, play, names=None, flags=()):
    """Return a text in which all examples pass."""
    rows = kept_lines(text)
    parts = []
    behind = 0
    for index, rehearsal in enumerate(rehearsed(text, play, names, flags)):
        if rehearsal.is_wrong():
            start, middle, end = cut_of(rehearsal.example)
            block = block_anew(rows[start:middle], rehearsal.told())
            if not is_read_well(block, middle - start, rehearsal):
                raise BadOutput(index)
            parts.extend(rows[behind:start])
            parts.append(block)
            behind = end
    return "".join(parts + rows[behind:])


def cut_of(example):
    """Return the places in its text at which an example begins, its source ends, and its want ends."""
    start = example.line - 1
    middle = start + len(lines_of(example.source))
    return start, middle, middle + len(lines_of(example.want))


def block_anew(rows, told):
    """Return the source lines of an example with what it has told below them."""
    ahead = " " * indent_of(widened(rows[0]))
    lines = [ahead + (MARK if is_blank(line) else line) + "\n" for line in lines_of(told)]
    return fed("".join(rows)) + "".join(lines)


def is_read_well(block, middle, rehearsal):
    """Tell whether all lines of a block from a middle on are read as expected ones, and let the example pass.

    No other line of the text matters: ahead of the block and behind it examples begin where
    they did, and as no line of it is less indented than its prompt, the least indent stays.
    """
    lines = lines_of(levelled(block))
    cut = (0, middle, len(lines))
    return cuts_of(lines) == [cut] and rehearsal.passes_as(piece_at(lines, cut), rehearsal.flags)


def least_options(text, play, names=None, flags=()):
    """Return, for each example, the least set of option words with which it passes, or None."""
    return [least_words(rehearsal) for rehearsal in rehearsed(text, play, names, flags)]


def least_words(rehearsal):
    """Return the least set of option words with which an example passes, or None."""
    if not rehearsal.is_wrong():
        return ()
    choices = [*COMPARING, IGNORE_DETAIL]
    words = sorted(["-" + flag if flag in rehearsal.flags else "+" + flag for flag in choices])
    for size in range(1, len(words) + 1):
        for chosen in combinations(words, size):
            options = {word[1:]: word[0] == "+" for word in chosen}
            if rehearsal.passes_as(rehearsal.example, in_force(rehearsal.flags, options)):
                return chosen
    return None


def directed(text, words):
    """Return a text with directives put in that hold option words for its examples."""
    rows = kept_lines(text)
    examples = examples_of(text)
    for index in range(max(len(words), len(examples))):
        if index >= len(words) or index >= len(examples) or not is_words(words[index]):
            raise BadOptions(index)
    for example, told in zip(examples, words):
        if told:
            last = cut_of(example)[1] - 1
            rows[last] = directed_line(rows[last], ", ".join(told))
    return "".join(rows)


def is_words(thing):
    """Tell whether any object is None, or a list or tuple of option words."""
    if thing is None:
        return True
    return isinstance(thing, (list, tuple)) and all([is_text(word) and is_option_word(word) for word in thing])


def directed_line(row, words):
    """Return a source line with option words at its end, ahead of its line feed."""
    line = row.removesuffix("\n")
    ahead = ", " if directive_of(line) else "  # doctest: "
    return line + ahead + words + row[len(line):]
