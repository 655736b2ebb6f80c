"""What a run reports of its examples."""

from promptyard.checker import difference_text, indented
from promptyard.outcomes import ERROR, got_in_all, has_failed
from promptyard.plays import traceback_text

# The line ahead of what has failed, in reports and summaries.
STARS = "**********************************************************************\n"


def report_of(test, example, outcome, flags, verbose):
    """Return what is reported of an example that was run and is not quiet; the flags are those in force."""
    start = start_report(example) if verbose else ""
    if has_failed(outcome[0]):
        return start + failure_report(test, example, outcome, flags)
    return start + "ok\n" if verbose else ""


def start_report(example):
    """Return what is reported ahead of an example."""
    expecting = f"Expecting:\n{indented(example.want)}" if example.want else "Expecting nothing\n"
    return f"Trying:\n{indented(example.source)}{expecting}"


def failure_report(test, example, outcome, flags):
    """Return what is reported behind an example that has failed."""
    word, got, error = outcome
    if word == ERROR:
        told = "Exception raised:\n" + indented(traceback_text(error))
    else:
        told = difference_text(example.want, got_in_all(got, error), flags)
    return f"{STARS}{place_of(test, example)}\nFailed example:\n{indented(example.source)}{told}"


def place_of(test, example):
    """Return the words for where an example stands."""
    if test.file is None:
        return f"Line {example.line}, in {test.name}"
    line = "?" if test.line is None else test.line + example.line
    return f'File "{test.file}", line {line}, in {test.name}'
