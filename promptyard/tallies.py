"""Counts: how many examples have failed, were tried and were skipped, and how they are summed up.

An ITEM is a name under which counts were added up.
"""

from promptyard.outcomes import SKIPPED, has_failed
from promptyard.reports import STARS

# The places of the numbers in counts.
FAILED = 0
TRIED = 1
PASSED_OVER = 2


def counts_of(words):
    """Return the counts of the words of examples that were tried."""
    return len([word for word in words if has_failed(word)]), len(words), words.count(SKIPPED)


def summed(many):
    """Return the sum of a list of counts."""
    return tuple([sum([counts[place] for counts in many]) for place in (FAILED, TRIED, PASSED_OVER)])


def number_of(number, word):
    """Return a number with a word behind it, which stands for several unless the number is 1."""
    return f"{number} {word}" if number == 1 else f"{number} {word}s"


def summary_of(counts, verbose):
    """Return the summary of a dict from items, in ascending order, to their counts."""
    lines = failed_lines(counts)
    if verbose:
        lines = untried_lines(counts) + passed_lines(counts) + lines + total_lines(counts)
    return "".join([line + "\n" for line in lines + last_lines(counts, verbose)])


def untried_lines(counts):
    """Return the lines of the items of which nothing was tried."""
    items = [name for name in counts if counts[name][TRIED] == 0]
    return headed("had no tests:", ["    " + name for name in items])


def passed_lines(counts):
    """Return the lines of the items of which something was tried and nothing failed."""
    items = [name for name in counts if counts[name][TRIED] > 0 and counts[name][FAILED] == 0]
    return headed("passed all tests:", [passed_line(name, counts[name][TRIED]) for name in items])


def passed_line(name, tried):
    """Return the line of an item of which nothing failed."""
    word = "test" if tried == 1 else "tests"
    return f" {tried:>3} {word} in {name}"


def failed_lines(counts):
    """Return the lines of the items of which something failed."""
    items = [name for name in counts if counts[name][FAILED] > 0]
    lines = headed("had failures:", [failed_line(name, counts[name]) for name in items])
    return [STARS.removesuffix("\n")] + lines if lines else []


def failed_line(name, counts):
    """Return the line of an item of which something failed."""
    return f" {counts[FAILED]:>3} of {counts[TRIED]:>3} in {name}"


def headed(head, lines):
    """Return the lines of items with the head above them, nothing if there is none."""
    return [f"{number_of(len(lines), 'item')} {head}"] + lines if lines else []


def total_lines(counts):
    """Return the lines that tell how many were tried in all, and how many of them failed."""
    failed, tried, _ = summed(list(counts.values()))
    how_many = f"{number_of(tried, 'test')} in {number_of(len(counts), 'item')}."
    return [how_many, f"{tried - failed} passed and {failed} failed." if failed else f"{tried} passed."]


def last_lines(counts, verbose):
    """Return the line that tells whether something failed, if there is one."""
    failed, _, skipped = summed(list(counts.values()))
    if not failed:
        return ["Test passed."] if verbose else []
    skips = f" and {number_of(skipped, 'skipped test')}" if skipped else ""
    return [f"***Test Failed*** {number_of(failed, 'failure')}{skips}."]
