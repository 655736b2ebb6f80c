"""What several files of tests share."""

import itertools

from promptyard.checker import check

COMPARING = ("DONT_ACCEPT_BLANKLINE", "DONT_ACCEPT_TRUE_FOR_1", "ELLIPSIS", "NORMALIZE_WHITESPACE")
OTHERS = ("FAIL_FAST", "IGNORE_EXCEPTION_DETAIL", "REPORT_ONLY_FIRST_FAILURE", "SKIP")

NOBLANK, NOTRUE, DOTS, SPACES = [[flag] for flag in COMPARING]

# The signs of a text, in the order of their codes: 94 from the space to the tilde, tab and line feed.
SIGNS = "".join(sorted(["\t", "\n"] + [chr(code) for code in range(32, 127) if chr(code) != "%"]))


def subsets(words=COMPARING):
    """All sets of the words, from the smallest ones on, each in ascending order."""
    return [found for size in range(len(words) + 1) for found in itertools.combinations(sorted(words), size)]


def order(output):
    """The key by which outputs are ordered."""
    return len(output), output


def outputs(signs, most):
    """All outputs of some signs, up to a length, in order."""
    bodies = ["".join(found) for size in range(most) for found in itertools.product(signs, repeat=size)]
    return sorted([""] + [body + "\n" for body in bodies], key=order)


def taken_among(many, want, flags):
    """The outputs among many that check lets by, as a list in the same order."""
    return [output for output in many if check(want, output, flags)]


def first(many):
    """The first of many, or None."""
    return many[0] if many else None
