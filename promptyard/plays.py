"""Plays: what sources do, told as data."""

from promptyard.errors import BadPlay
from promptyard.lines import fed
from promptyard.values import held_names, is_dotted, is_name, is_text, is_value, value_copy

# What a traceback begins with: its stack is never told.
TRACEBACK = "Traceback (most recent call last):\n    ...\n"

# The kinds of what has to stand behind the word of a deed.
SHAPES = {
    "print": ("text",),
    "show": ("name",),
    "set": ("name", "value"),
    "copy": ("name", "name"),
    "delete": ("name",),
    "raise": ("kind of error", "text"),
}


def fits(thing, kind):
    """Tell whether any object is of a kind."""
    if kind == "name":
        return is_name(thing)
    if kind == "value":
        return is_value(thing)
    return is_text(thing) if kind == "text" else is_dotted(thing)


def is_deed(thing):
    """Tell whether any object is a deed."""
    if not isinstance(thing, (list, tuple)) or not thing or not is_text(thing[0]):
        return False
    shape = SHAPES.get(thing[0])
    if shape is None or len(shape) != len(thing) - 1:
        return False
    return all([fits(part, kind) for part, kind in zip(thing[1:], shape)])


def is_act(thing):
    """Tell whether any object is an act."""
    return isinstance(thing, (list, tuple)) and all([is_deed(part) for part in thing])


def is_play(thing):
    """Tell whether any object is a play."""
    return isinstance(thing, dict) and all([is_text(key) and is_act(thing[key]) for key in thing])


def require_play(thing):
    """Raise BadPlay for any object that is no play."""
    if not is_play(thing):
        raise BadPlay()


def acted(play, source, names=None):
    """Return what the act of a source prints, the error that it raises or None, and the names then."""
    require_play(play)
    now = held_names(names)
    printed, error = played(play, source, now)
    return printed, error, now


def played(play, source, names):
    """Do the act of a source with names, which it may change, and return what it prints and its error or None."""
    if source not in play:
        return "", ("SyntaxError", "invalid syntax")
    printed = []
    for deed in play[source]:
        text, error = done(deed, names)
        printed.append(text)
        if error is not None:
            return "".join(printed), error
    return "".join(printed), None


def done(deed, names):
    """Do a deed with names, which it may change, and return what it prints and its error or None."""
    word, *told = deed
    if word == "print":
        return told[0], None
    if word == "raise":
        return "", (told[0], told[1])
    if word == "set":
        names[told[0]] = value_copy(told[1])
        return "", None
    asked = told[-1]
    if asked not in names:
        return "", ("NameError", f"name '{asked}' is not defined")
    if word == "show":
        return shown(names[asked]), None
    if word == "copy":
        names[told[0]] = value_copy(names[asked])
    else:
        del names[asked]
    return "", None


def shown(value):
    """Return what is printed to show a value."""
    return "" if value is None else repr(value) + "\n"


def error_text(error):
    """Return the text of an error."""
    kind, text = error
    return f"{kind}: {text}\n" if text else f"{kind}\n"


def traceback_text(error):
    """Return the traceback of an error."""
    return TRACEBACK + error_text(error)


def ended(printed):
    """Return what was printed, with a line feed behind it if it is not empty and has none there."""
    return fed(printed) if printed else printed
