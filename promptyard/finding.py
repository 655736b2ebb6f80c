"""Modules that are told as data, and the tests of their docs."""

from promptyard.errors import BadKey, BadModule
from promptyard.running import Runner, test_of
from promptyard.values import held_names, is_count, is_name, is_names, is_text

SORTS = ("function", "class", "property", "static", "class method", "value")

# The sorts of members that are looked at in a module, in a class, and under a key of the tests.
SORTS_IN_MODULES = ("function", "class")
SORTS_IN_CLASSES = ("function", "class", "property", "static", "class method")
SORTS_UNDER_KEYS = ("function", "class", "static", "class method")

# The name that every test has, and its value if nothing else is told.
OWN_NAME = "_name"
MAIN = "__main__"


def is_text_or_none(thing):
    """Tell whether any object is a text or None."""
    return thing is None or is_text(thing)


def is_full_text(thing):
    """Tell whether any object is a text that is not empty."""
    return is_text(thing) and thing != ""


def is_line(thing):
    """Tell whether any object is an integer from 0 on or None."""
    return thing is None or is_count(thing)


def is_mark(thing):
    """Tell whether any object is an integer or a text."""
    return is_text(thing) or (isinstance(thing, int) and not isinstance(thing, bool))


def is_members(thing):
    """Tell whether any object is a dict from names to members."""
    return isinstance(thing, dict) and all([is_name(key) and is_member(thing[key]) for key in thing])


def is_member(thing):
    """Tell whether any object is a member."""
    return isinstance(thing, dict) and "sort" in thing and all([fits_member(thing, key) for key in thing])


def fits_member(member, key):
    """Tell whether a key may stand in a member with what stands under it."""
    part = member[key]
    if key == "sort":
        return part in SORTS
    if key == "doc":
        return is_text_or_none(part)
    if key == "module":
        return is_full_text(part)
    if key == "line":
        return is_line(part)
    if key == "mark":
        return is_mark(part)
    return key == "members" and member["sort"] == "class" and is_members(part)


def is_tests(thing):
    """Tell whether any object is a dict from any keys to texts and members."""
    return isinstance(thing, dict) and all([is_text(thing[key]) or is_member(thing[key]) for key in thing])


def is_module(thing):
    """Tell whether any object is a module."""
    return isinstance(thing, dict) and "name" in thing and all([fits_module(key, thing[key]) for key in thing])


def fits_module(key, part):
    """Tell whether a key may stand in a module with what stands under it."""
    if key == "name":
        return is_full_text(part)
    if key in ("doc", "file"):
        return is_text_or_none(part)
    if key == "names":
        return is_names(part)
    if key == "members":
        return is_members(part)
    return key == "tests" and is_tests(part)


class Finder:
    """What looks at the things of a module, one after another, and keeps their tests."""

    def __init__(self, module, names, recurse, exclude_empty):
        self.module = module
        self.names_of_tests = names
        self.recurse = recurse
        self.exclude_empty = exclude_empty
        self.marks = {}
        self.tests = []

    def take(self, doc, name, line):
        """Keep the test of a doc, unless there is none."""
        if doc or not self.exclude_empty:
            text = "" if doc is None else doc
            self.tests.append(test_of(text, self.names_of_tests, name, self.module.get("file"), line))

    def look_at(self, member, name):
        """Look at a member, and if it is a class at what stands in it."""
        if "mark" in member:
            if member["mark"] in self.marks:
                return
            self.marks[member["mark"]] = True
        self.take(member.get("doc"), name, member.get("line"))
        if self.recurse:
            self.look_at_members(member, name, SORTS_IN_CLASSES)

    def look_at_members(self, thing, name, sorts):
        """Look at the members of a thing that are of some sorts and come from the module."""
        for key, member in thing.get("members", {}).items():
            if member["sort"] in sorts and self.has_come_from_here(member):
                self.look_at(member, f"{name}.{key}")

    def has_come_from_here(self, member):
        """Tell whether a member comes from the module, as properties always do."""
        here = self.module["name"]
        return member["sort"] == "property" or member.get("module", here) == here

    def look_at_key(self, key, thing):
        """Look at what stands under a key of the tests."""
        if not is_text(key) or (not is_text(thing) and thing["sort"] not in SORTS_UNDER_KEYS):
            raise BadKey(key)
        name = f"{self.module['name']}.tests.{key}"
        if is_text(thing):
            self.take(thing, name, None)
        else:
            self.look_at(thing, name)


def names_for(module, names, more):
    """Return the names of the tests of a module, or raise BadNames."""
    own = held_names(names)
    if names is None:
        own = held_names(module.get("names"))
    found = {**own, **held_names(more)}
    found.setdefault(OWN_NAME, MAIN)
    return found


def find_tests(module, *, recurse=True, exclude_empty=True, names=None, more=None):
    """Return the list of the tests of a module."""
    if not is_module(module):
        raise BadModule()
    name = module["name"]
    finder = Finder(module, names_for(module, names, more), recurse, exclude_empty)
    finder.take(module.get("doc"), name, 0)
    if recurse:
        finder.look_at_members(module, name, SORTS_IN_MODULES)
    for key, thing in module.get("tests", {}).items():
        finder.look_at_key(key, thing)
    return sorted(finder.tests, key=lambda test: test.name)


def tested(module, play, flags=(), *, verbose=False, exclude_empty=False, names=None, more=None):
    """Run the tests of a module, and return the counts, the reports and the summary."""
    runner = Runner(play, flags)
    tests = find_tests(module, exclude_empty=exclude_empty, names=names, more=more)
    reports = [runner.run(test, verbose=verbose)[2] for test in tests]
    return runner.total(), "".join(reports), runner.summary(verbose)
