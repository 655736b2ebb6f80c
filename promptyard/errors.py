"""The errors of the package, all of them direct subclasses of PromptError."""


def held(thing):
    """Return a copy of thing in which every list, at every depth, is a tuple."""
    if isinstance(thing, (list, tuple)):
        return tuple([held(part) for part in thing])
    if isinstance(thing, dict):
        return {key: held(thing[key]) for key in thing}
    return thing


class PromptError(ValueError):
    """What all errors of the package are."""


class BadFlag(PromptError):
    """Something stands where a flag has to stand."""

    def __init__(self, flag):
        self.flag = held(flag)


class BadText(PromptError):
    """A text of examples is wrong at a line."""

    def __init__(self, line, reason, found):
        self.line = held(line)
        self.reason = held(reason)
        self.found = held(found)


class BadPlay(PromptError):
    """Something is no play."""


class BadNames(PromptError):
    """Something is neither None nor names of a test."""


class BadLength(PromptError):
    """Something is no length of an output."""

    def __init__(self, length):
        self.length = held(length)


class BadIndex(PromptError):
    """No output that is taken has this index."""

    def __init__(self, index):
        self.index = held(index)


class NotTaken(PromptError):
    """A text is no output, or one that is not taken."""


class Failed(PromptError):
    """An example of a strict run has failed."""

    def __init__(self, number, got):
        self.number = held(number)
        self.got = held(got)


class Unexpected(PromptError):
    """An example of a strict run has raised an error that it does not expect."""

    def __init__(self, number, error):
        self.number = held(number)
        self.error = held(error)


class BadModule(PromptError):
    """Something is no module."""


class BadKey(PromptError):
    """A key of the tests of a module is none."""

    def __init__(self, key):
        self.key = held(key)


class BadOutput(PromptError):
    """What an example told cannot be written as its expected text."""

    def __init__(self, index):
        self.index = held(index)


class BadOptions(PromptError):
    """There are no option words for an example, or no example for them."""

    def __init__(self, index):
        self.index = held(index)


class BadSources(PromptError):
    """Two texts have other bare sources at an index."""

    def __init__(self, index):
        self.index = held(index)
