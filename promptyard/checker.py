"""Whether an expected text lets another one by, and how a difference is told."""

from itertools import combinations

from promptyard.flags import COMPARING, ELLIPSIS, IGNORE_DETAIL, NORMALIZE, NO_BLANKLINE, ONE_IS_NOT_TRUE, require_flags
from promptyard.stages import DOTS, MARK, TRUTHS, blanks_emptied, has_pieces, marks_emptied, words_joined


def lets_by(want, got, flags):
    """Tell what check tells, with flags that are known to be some."""
    if want == got:
        return True
    if ONE_IS_NOT_TRUE not in flags and TRUTHS.get(want) == got:
        return True
    if NO_BLANKLINE not in flags:
        want = marks_emptied(want)
        got = blanks_emptied(got)
    if NORMALIZE in flags:
        want = words_joined(want)
        got = words_joined(got)
    if want == got:
        return True
    return ELLIPSIS in flags and DOTS in want and has_pieces(want.split(DOTS), got)


def check(want, got, flags=()):
    """Tell whether want lets got by."""
    require_flags(flags)
    return lets_by(want, got, flags)


def check_error(want, got, flags=()):
    """Tell whether an expected error text lets another one by."""
    require_flags(flags)
    return error_lets_by(want, got, flags)


def error_lets_by(want, got, flags):
    """Tell what check_error tells, with flags that are known to be some."""
    if lets_by(want, got, flags):
        return True
    return IGNORE_DETAIL in flags and lets_by(detail_free(want), detail_free(got), flags)


def detail_free(text):
    """Return the name of the error of an error text, without its module and its message."""
    name = text.partition("\n")[0].partition(":")[0]
    return name.rpartition(".")[2]


def indented(text):
    """Return text with four spaces ahead of each line that is not empty."""
    return "\n".join(["    " + line if line else "" for line in text.split("\n")])


def told(head, text):
    """Return the rows that show a text under its head, or that there is none."""
    if not text:
        return f"{head} nothing\n"
    return f"{head}:\n{indented(text)}"


def blanks_marked(got):
    """Return got with a mark for each line of nothing but spaces and a line feed."""
    *lines, rest = got.split("\n")
    return "\n".join([line if line.strip(" ") else MARK for line in lines] + [rest])


def difference_text(want, got, flags=()):
    """Return the text that reports a want and what was got."""
    require_flags(flags)
    shown = got if NO_BLANKLINE in flags else blanks_marked(got)
    return told("Expected", want) + told("Got", shown)


def least_flags(want, got):
    """Return the least sets of flags of comparing with which want lets got by."""
    found = []
    every = list(COMPARING)
    for size in range(len(every) + 1):
        for words in combinations(every, size):
            if lets_by(want, got, words) and not has_part(found, words):
                found.append(words)
    return found


def has_part(found, words):
    """Tell whether one of the sets that were found is a part of the words."""
    return any([all([word in words for word in part]) for part in found])
