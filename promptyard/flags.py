"""The words that steer how outputs are compared and examples are run."""

from promptyard.errors import BadFlag

ONE_IS_NOT_TRUE = "DONT_ACCEPT_TRUE_FOR_1"
NO_BLANKLINE = "DONT_ACCEPT_BLANKLINE"
NORMALIZE = "NORMALIZE_WHITESPACE"
ELLIPSIS = "ELLIPSIS"
SKIP = "SKIP"
IGNORE_DETAIL = "IGNORE_EXCEPTION_DETAIL"
FIRST_FAILURE = "REPORT_ONLY_FIRST_FAILURE"
FAIL_FAST = "FAIL_FAST"

FLAGS = (
    "DONT_ACCEPT_TRUE_FOR_1",
    "DONT_ACCEPT_BLANKLINE",
    "NORMALIZE_WHITESPACE",
    "ELLIPSIS",
    "SKIP",
    "IGNORE_EXCEPTION_DETAIL",
    "REPORT_ONLY_FIRST_FAILURE",
    "FAIL_FAST",
)

# In ascending order, so that sets that are drawn from it in turn are ascending, too.
COMPARING = (
    "DONT_ACCEPT_BLANKLINE",
    "DONT_ACCEPT_TRUE_FOR_1",
    "ELLIPSIS",
    "NORMALIZE_WHITESPACE",
)


def is_flag(thing):
    """Tell whether any object is a flag."""
    return isinstance(thing, str) and thing in FLAGS


def require_flags(flags):
    """Raise BadFlag for the first thing in flags that is none."""
    for thing in flags:
        if not is_flag(thing):
            raise BadFlag(thing)


def in_force(flags, options):
    """Return the flags in force for an example with options, if those of its runner are flags."""
    return [flag for flag in FLAGS if options.get(flag, flag in flags)]
