"""What examples tell when they are run, and the words for how they end."""

from promptyard.checker import error_lets_by, lets_by
from promptyard.flags import SKIP
from promptyard.plays import ended, error_text, played, traceback_text

SUCCESS = "success"
FAILURE = "failure"
ERROR = "error"
SKIPPED = "skipped"


def outcome_of(example, play, names, flags):
    """Run an example with names, which it may change, and return its word, what was got and its error or None.

    The flags are those in force for it.
    """
    if SKIP in flags:
        return SKIPPED, "", None
    printed, error = played(play, example.bare, names)
    got = ended(printed)
    return word_of(example, got, error, flags), got, error


def word_of(example, got, error, flags):
    """Return the word of an example that is not skipped."""
    if error is None:
        is_well = lets_by(example.want, got, flags)
    elif example.error is None:
        return ERROR
    else:
        is_well = error_lets_by(example.error, error_text(error), flags)
    return SUCCESS if is_well else FAILURE


def has_failed(word):
    """Tell whether a word is that of an example that has failed."""
    return word in (FAILURE, ERROR)


def got_in_all(got, error):
    """Return what was got, with the traceback behind it if there was an error."""
    return got if error is None else got + traceback_text(error)
