"""The values that names have in plays and tests."""

from promptyard.errors import BadNames


def is_value(thing):
    """Tell whether any object is a value."""
    if isinstance(thing, (list, tuple)):
        return all([is_value(part) for part in thing])
    return thing is None or isinstance(thing, (int, str))


def is_text(thing):
    """Tell whether any object is a text."""
    return isinstance(thing, str)


def is_count(thing):
    """Tell whether any object is an integer from 0 on."""
    return isinstance(thing, int) and not isinstance(thing, bool) and thing >= 0


def is_name(thing):
    """Tell whether any object is a name."""
    return isinstance(thing, str) and thing.isascii() and thing.isidentifier()


def is_dotted(thing):
    """Tell whether any object is a name, or several with points between."""
    return isinstance(thing, str) and all([is_name(part) for part in thing.split(".")])


def is_names(thing):
    """Tell whether any object is names of a test."""
    return isinstance(thing, dict) and all([is_name(key) and is_value(thing[key]) for key in thing])


def value_copy(value):
    """Return a value with new lists at every depth, also for tuples."""
    if isinstance(value, (list, tuple)):
        return [value_copy(part) for part in value]
    return value


def names_copy(names):
    """Return a copy of names of a test, which shares no list with them, nor has one twice."""
    return {name: value_copy(names[name]) for name in names}


def held_names(names):
    """Return a copy of what was passed as names of a test, no names for None, or raise BadNames."""
    if names is None:
        return {}
    if not is_names(names):
        raise BadNames()
    return names_copy(names)
