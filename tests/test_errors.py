"""[4] and [46]: the errors."""

import unittest

from promptyard import errors
from promptyard.checker import check
from promptyard.outputs import least_with, nth_taken

FIELDS = {
    "BadFlag": ("flag",),
    "BadText": ("line", "reason", "found"),
    "BadPlay": (),
    "BadNames": (),
    "BadLength": ("length",),
    "BadIndex": ("index",),
    "NotTaken": (),
    "Failed": ("number", "got"),
    "Unexpected": ("number", "error"),
    "BadModule": (),
    "BadKey": ("key",),
    "BadOutput": ("index",),
    "BadOptions": ("index",),
    "BadSources": ("index",),
}

THINGS = [None, True, 0, -7, "", "text", (), (1, "a"), {"a": 1}, {1: (2, {3: None})}]


class Errors(unittest.TestCase):
    def test_all_are_direct_subclasses_defined_there(self):
        self.assertEqual(errors.PromptError.__bases__, (ValueError,))
        found = {
            name
            for name, thing in vars(errors).items()
            if isinstance(thing, type) and issubclass(thing, errors.PromptError)
        }
        self.assertEqual(found, set(FIELDS) | {"PromptError"})
        for name in FIELDS:
            kind = getattr(errors, name)
            self.assertEqual(kind.__bases__, (errors.PromptError,), name)
            self.assertEqual(kind.__module__, "promptyard.errors", name)

    def test_fields_by_position_and_by_name(self):
        for name, fields in FIELDS.items():
            kind = getattr(errors, name)
            for thing in THINGS:
                values = [(thing, place) for place, _ in enumerate(fields)]
                for error in (kind(*values), kind(**dict(zip(fields, values)))):
                    self.assertEqual(vars(error), dict(zip(fields, values)), name)

    def test_each_field_is_the_thing_itself(self):
        for thing in THINGS:
            flag = errors.BadFlag(thing).flag
            self.assertEqual(flag, thing)
            self.assertIs(type(flag), type(thing))

    def test_the_order_of_several_fields(self):
        error = errors.BadText(3, "blank", ".. ")
        self.assertEqual((error.line, error.reason, error.found), (3, "blank", ".. "))
        error = errors.BadText(found="f", line=1, reason="option")
        self.assertEqual((error.line, error.reason, error.found), (1, "option", "f"))
        error = errors.Failed(2, "got\n")
        self.assertEqual((error.number, error.got), (2, "got\n"))
        error = errors.Unexpected(2, ("NameError", "x"))
        self.assertEqual((error.number, error.error), (2, ("NameError", "x")))

    def test_wrong_numbers_of_fields(self):
        for name, fields in FIELDS.items():
            if fields:
                with self.assertRaises(TypeError):
                    getattr(errors, name)()

    def test_lists_are_held_as_tuples_at_every_depth(self):
        thing = [1, [2, [3, {"a": [4, [5]], "b": ({"c": []},)}]], ([],)]
        want = (1, (2, (3, {"a": (4, (5,)), "b": ({"c": ()},)})), ((),))
        for name, fields in FIELDS.items():
            for field in fields:
                values = {other: 0 for other in fields}
                values[field] = thing
                error = getattr(errors, name)(**values)
                self.assertEqual(getattr(error, field), want, name)

    def test_deep_things(self):
        deep = []
        for _ in range(12):
            deep = [deep, {"k": deep}]
        held = errors.BadKey(deep).key
        for _ in range(12):
            self.assertIs(type(held), tuple)
            self.assertEqual(held[0], held[1]["k"])
            held = held[1]["k"]
        self.assertEqual(held, ())

    def test_what_was_passed_is_copied_and_unchanged(self):
        inner = [1]
        table = {"a": inner, "b": {"c": inner}}
        error = errors.BadKey([table, inner])
        inner.append(2)
        table["d"] = 0
        self.assertEqual(error.key, ({"a": (1,), "b": {"c": (1,)}}, (1,)))
        self.assertEqual(table, {"a": [1, 2], "b": {"c": [1, 2]}, "d": 0})

    def test_one_catches_all(self):
        for call in (lambda: check("", "", ["?"]), lambda: nth_taken("a\n", [], 1), lambda: least_with([("", [0])], [])):
            for kind in (errors.PromptError, ValueError):
                with self.assertRaises(kind):
                    call()


if __name__ == "__main__":
    unittest.main()
