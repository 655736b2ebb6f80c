"""Counts: how many examples have failed, were tried and were skipped, and how they are summed up.

An ITEM is a name under which counts were added up.
"""

from promptyard.outcomes import SKIPPED, has_failed
from promptyard.reports import STARS


def counts_of(words):
    """Return the counts of the words of examples that were tried."""
    return len([word for word in words if has_failed(word)]), len(words), words.count(SKIPPED)


def summed(many):
    """Return the sum of a list of counts."""
    return (
        sum([failed for failed, _, _ in many]),
        sum([tried for _, tried, _ in many]),
        sum([skipped for _, _, skipped in many]),
    )


def number_of(number, word):
    """Return a number with a word behind it, which stands for several unless the number is 1."""
    return f"{number} {word}" if number == 1 else f"{number} {word}s"


def summary_of(counts, verbose):
    """Return the summary of a dict from items, in ascending order, to their counts."""
    lines = failed_lines(counts)
    if verbose:
        lines = untried_lines(counts) + passed_lines(counts) + lines + total_lines(counts)
    return "".join([line + "\n" for line in lines + last_lines(counts, verbose)])


def untried_lines(counts):
    """Return the lines of the items of which nothing was tried."""
    items = [name for name, (_, tried, _) in counts.items() if tried == 0]
    return headed("had no tests:", ["    " + name for name in items])


def passed_lines(counts):
    """Return the lines of the items of which something was tried and nothing failed."""
    items = [(name, tried) for name, (failed, tried, _) in counts.items() if tried > 0 and failed == 0]
    words = [(name, tried, "test" if tried == 1 else "tests") for name, tried in items]
    return headed("passed all tests:", [f" {tried:>3} {word} in {name}" for name, tried, word in words])


def failed_lines(counts):
    """Return the lines of the items of which something failed."""
    items = [(name, failed, tried) for name, (failed, tried, _) in counts.items() if failed > 0]
    lines = headed("had failures:", [f" {failed:>3} of {tried:>3} in {name}" for name, failed, tried in items])
    return [STARS.removesuffix("\n")] + lines if lines else []


def headed(head, lines):
    """Return the lines of items with the head above them, nothing if there is none."""
    return [f"{number_of(len(lines), 'item')} {head}"] + lines if lines else []


def total_lines(counts):
    """Return the lines that tell how many were tried in all, and how many of them failed."""
    failed, tried, _ = summed(list(counts.values()))
    how_many = f"{number_of(tried, 'test')} in {number_of(len(counts), 'item')}."
    return [how_many, f"{tried - failed} passed and {failed} failed." if failed else f"{tried} passed."]


def last_lines(counts, verbose):
    """Return the line that tells whether something failed, if there is one."""
    failed, _, skipped = summed(list(counts.values()))
    if not failed:
        return ["Test passed."] if verbose else []
    skips = f" and {number_of(skipped, 'skipped test')}" if skipped else ""
    return [f"***Test Failed*** {number_of(failed, 'failure')}{skips}."]
