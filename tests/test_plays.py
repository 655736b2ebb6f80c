"""[26] to [28]: plays, what is done by them, and how errors are told."""

import copy
import itertools
import unittest

from promptyard.errors import BadNames, BadPlay
from promptyard.plays import acted, ended, error_text, is_play, traceback_text

VALUES = [None, True, False, 0, -5, 10 ** 30, "", "a'b\n", [], (), [1, "a", None], [[True], ("x", [2])], ((), [()])]

NO_VALUES = [{}, {"a": 1}, [{}], ["a", [1, {}]], (((), {"b": None}),), 1.5, b"a", [b"a"], {1}, len]

NAMES = ["a", "Z", "_", "_a", "a1", "x_Y_2", "__", "print", "class", "None", "a" * 20]

NO_NAMES = [
    "", "1", "1a", "a b", " a", "a ", "a\n", "a-b", "a.b", ".", "a'", "\t", "a,b", "-", None, True, 0, 1, (), ["a"], ("a",), {"a": 1},
    "\u00e9", "a\u00b2", "\u0661",
]

KINDS = NAMES + ["a.b", "A.B.C", "_._.x1", "os.error"]

NO_KINDS = [name for name in NO_NAMES if name != "a.b"] + ["a.", ".a", "a..b", "a.1", "a. b", "a.b\n", "a.b.", "a:b"]

NO_TEXTS = [None, True, 1, [], ["a"], ("a",), {}, {"a": 1}, b"a"]

WRONG_DEEDS = (
    [("print", thing) for thing in NO_TEXTS]
    + [("show", thing) for thing in NO_NAMES]
    + [("set", thing, 1) for thing in NO_NAMES]
    + [("set", "a", thing) for thing in NO_VALUES]
    + [("copy", thing, "a") for thing in NO_NAMES]
    + [("copy", "a", thing) for thing in NO_NAMES]
    + [("delete", thing) for thing in NO_NAMES]
    + [("raise", thing, "a") for thing in NO_KINDS]
    + [("raise", "A", thing) for thing in NO_TEXTS]
    # Words and numbers of things.
    + [(), [], ("a",), ("print",), ("show",), ("delete",), ("set", "a"), ("copy", "a"), ("raise", "A"), ("print", "a", "b")]
    + [("show", "a", "b"), ("set", "a", 1, 2), ("copy", "a", "b", "c"), ("delete", "a", "b"), ("raise", "A", "b", "c"), ("raise",)]
    + [("Print", "a"), ("", "a"), ("pass",), (None, "a"), (1, "a"), (["print"], "a"), ({}, "a"), (("show",), "a"), ("print ", "a")]
    # No deeds at all.
    + [None, True, 0, "", "print", "pr", {}, {"print": "a"}, {0: "print", 1: "a"}]
)

RIGHT_DEEDS = (
    [("print", text) for text in ("", "a", "a\nb\n", "\t")]
    + [(word, name) for word in ("show", "delete") for name in NAMES]
    + [("set", name, 1) for name in NAMES]
    + [("set", "a", value) for value in VALUES]
    + [("copy", name, other) for name, other in zip(NAMES, NAMES[::-1])]
    + [("raise", kind, "a\n: b") for kind in KINDS]
    + [("raise", "A", "")]
)


class IsPlay(unittest.TestCase):
    def test_plays(self):
        for deed in RIGHT_DEEDS:
            for act in ([deed], (deed,), [list(deed)], (list(deed), deed)):
                self.assertIs(is_play({"a\n": act}), True, deed)
        for play in ({}, {"": []}, {"a\n": (), "b": [], "c\nd\n": [("print", "x")]}, {"a": RIGHT_DEEDS}):
            self.assertIs(is_play(play), True)

    def test_deeds_that_are_wrong(self):
        for deed in WRONG_DEEDS:
            for act in ([deed], (deed,), [("print", "a"), deed], [deed, ("print", "a")]):
                self.assertIs(is_play({"a\n": act}), False, deed)
            if isinstance(deed, tuple):
                self.assertIs(is_play({"a\n": [list(deed)]}), False, deed)
            self.assertIs(is_play({"a\n": [], "b\n": [deed], "c\n": []}), False, deed)

    def test_acts_that_are_wrong(self):
        for act in (None, True, 0, "", "print", {}, {"print": "a"}, ("print", "a"), ["print", "a"], [[("print", "a")]], 1):
            self.assertIs(is_play({"a": act}), False, act)
            self.assertIs(is_play({"a": [], "b": act}), False, act)

    def test_sources_that_are_wrong(self):
        for source in (None, True, 0, 1, (), ("a",)):
            self.assertIs(is_play({source: []}), False, source)
            self.assertIs(is_play({"a": [], source: [], "b": []}), False, source)

    def test_things_that_are_no_plays(self):
        for thing in (None, True, False, 0, 1, "", "a", [], (), [{}], ({},), [("a", [])], [["print", "a"]]):
            self.assertIs(is_play(thing), False, thing)


class Acted(unittest.TestCase):
    def acts(self, deeds, printed, error, names, before=None):
        for act in (deeds, tuple(deeds), [list(deed) for deed in deeds]):
            found = acted({"a\n": act, "b\n": [("print", "no")]}, "a\n", before)
            self.assertEqual(found, (printed, error, names))
            self.assertIs(type(found), tuple)
            self.assertIn(type(found[1]), (tuple, type(None)))

    def test_print(self):
        self.acts([], "", None, {})
        self.acts([("print", "a"), ("print", ""), ("print", "b\nc")], "ab\nc", None, {})

    def test_show(self):
        for value, shown in (
            (True, "True\n"), (0, "0\n"), (-12, "-12\n"), ("", "''\n"), ("a\n'\t", '"a\\n\'\\t"\n'), ([], "[]\n"), ((), "[]\n"),
            ([1, "a", None, [False]], "[1, 'a', None, [False]]\n"), (((1,), ()), "[[1], []]\n"), (None, ""), ([None], "[None]\n"),
            (10 ** 30, "1" + "0" * 30 + "\n"), ("a'\"b", "'a\\'\"b'\n"), ("\\", "'\\\\'\n"),
        ):
            held = [list(part) if isinstance(part, tuple) else part for part in value] if isinstance(value, tuple) else value
            self.acts([("show", "x")], shown, None, {"x": held}, {"x": value})
            self.acts([("set", "x", value), ("show", "x")], shown, None, {"x": held})

    def test_set(self):
        self.acts([("set", "x", 1), ("set", "y", 2), ("set", "x", "a")], "", None, {"x": "a", "y": 2})
        self.acts([("set", "x", None)], "", None, {"x": None, "y": 5}, {"y": 5})
        self.acts([("set", "x", (1, (2,)))], "", None, {"x": [1, [2]]}, {"x": 0})

    def test_copy(self):
        self.acts([("copy", "x", "y"), ("set", "y", 2), ("show", "x")], "1\n", None, {"x": 1, "y": 2}, {"y": 1})
        self.acts([("copy", "x", "x")], "", None, {"x": [1]}, {"x": [1]})
        self.acts([("copy", "x", "y")], "", None, {"x": None, "y": None}, {"x": 3, "y": None})

    def test_delete(self):
        self.acts([("delete", "x")], "", None, {"y": 2}, {"x": 1, "y": 2})
        self.acts([("set", "x", 1), ("delete", "x"), ("set", "x", 2)], "", None, {"x": 2})
        self.acts([("copy", "y", "x"), ("delete", "x"), ("show", "y")], "", None, {"y": None}, {"x": None})

    def test_raise_ends_the_act(self):
        self.acts([("print", "a"), ("set", "x", 1), ("raise", "A.B", "c"), ("print", "d"), ("set", "x", 2)], "a", ("A.B", "c"), {"x": 1})
        self.acts([("raise", "A", "")], "", ("A", ""), {"y": 1}, {"y": 1})
        self.acts([("raise", "A", "1"), ("raise", "B", "2")], "", ("A", "1"), {})

    def test_names_that_are_not_there(self):
        for name in NAMES:
            error = ("NameError", "name '" + name + "' is not defined")
            for deed in (("show", name), ("delete", name), ("copy", "other", name), ("copy", name, name)):
                names = {"other": 1, "more": [2]}
                self.acts([("print", "a"), deed, ("print", "b")], "a", error, names, names)
        self.acts([("delete", "x"), ("delete", "x")], "", ("NameError", "name 'x' is not defined"), {}, {"x": 1})
        self.acts([("copy", "x", "y")], "", ("NameError", "name 'y' is not defined"), {"x": 1}, {"x": 1})
        # A name whose value is None, 0 or empty is there.
        self.acts([("show", "x"), ("show", "y"), ("show", "z")], "0\n''\n", None, {"x": None, "y": 0, "z": ""}, {"x": None, "y": 0, "z": ""})

    def test_a_source_that_is_not_in_the_play(self):
        play = {"a\n": [("print", "x"), ("set", "n", 1)], "": [("print", "y")]}
        for source in ("a", "a \n", " a\n", "b\n", "\n"):
            self.assertEqual(acted(play, source), ("", ("SyntaxError", "invalid syntax"), {}))
            names = {"n": [2, [3]]}
            found = acted(play, source, names)
            self.assertEqual(found, ("", ("SyntaxError", "invalid syntax"), {"n": [2, [3]]}))
            self.assertIsNot(found[2], names)
            self.assertIsNot(found[2]["n"], names["n"])
            self.assertIsNot(found[2]["n"][1], names["n"][1])
        self.assertEqual(acted(play, ""), ("y", None, {}))
        self.assertEqual(acted({}, "a\n"), ("", ("SyntaxError", "invalid syntax"), {}))

    def test_names_may_be_left_out(self):
        play = {"a": [("set", "x", [1])]}
        for found in (acted(play, "a"), acted(play, "a", None), acted(names={}, source="a", play=play)):
            self.assertEqual(found, ("", None, {"x": [1]}))
        self.assertEqual(acted(play, "a"), ("", None, {"x": [1]}))

    def test_tuples_are_lists(self):
        names = {"x": (1, (2, [3, ()])), "y": [(4,)]}
        found = acted({"a": [("set", "z", ((5,),))]}, "a", names)[2]
        self.assertEqual(found, {"x": [1, [2, [3, []]]], "y": [[4]], "z": [[5]]})
        self.assertEqual(acted({}, "a", names)[2], {"x": [1, [2, [3, []]]], "y": [[4]]})

    def test_nothing_that_was_passed_is_changed_or_kept(self):
        play = {"a": [["set", "x", [1, [2]]], ("copy", "y", "x"), ["delete", "z"], ("copy", "v", "w")]}
        names = {"z": 1, "w": [[3]], "u": ([4],)}
        before = copy.deepcopy((play, names))
        found = acted(play, "a", names)[2]
        self.assertEqual(found, {"w": [[3]], "u": [[4]], "x": [1, [2]], "y": [1, [2]], "v": [[3]]})
        for value in found.values():
            value[-1].append(9)
            value.append(8)
        self.assertEqual((play, names), before)
        self.assertEqual(found["x"], [1, [2, 9], 8])
        self.assertEqual(found["y"], [1, [2, 9], 8])
        self.assertEqual(acted(play, "a", names)[2], {"w": [[3]], "u": [[4]], "x": [1, [2]], "y": [1, [2]], "v": [[3]]})

    def test_a_list_that_stands_in_several_places_is_returned_several_times(self):
        inner = [1]
        found = acted({"a": [("set", "z", [inner, inner])]}, "a", {"x": [inner, inner], "y": inner})[2]
        lists = [found["y"], *found["x"], *found["z"]]
        for one, two in itertools.combinations(lists + [inner], 2):
            self.assertIsNot(one, two)
        self.assertEqual(lists, [[1]] * 5)

    def test_things_that_are_no_plays(self):
        wrong = [None, True, 0, "", [], (), {"a": None}, {1: []}, {"a": ("print", "b")}]
        for play in wrong + [{"a": [], "b": [deed]} for deed in WRONG_DEEDS]:
            for source, names in (("a", None), ("b", {}), ("c", {"x": 1})):
                with self.assertRaises(BadPlay):
                    acted(play, source, names)

    def test_names_that_are_none(self):
        wrong = [True, False, 0, 1, "", "a", [], (), [("x", 1)], {"x": {}}, {"a": 1, "x": [{"b": 1}]}, {"a": 1, "b": 2, "c": {}}]
        wrong += [{key: 1} for key in NO_NAMES if not isinstance(key, (list, dict))]
        wrong += [{"a": 1, key: None, "b": 2} for key in ("a.b", "", 1, None, ("a",))]
        wrong += [{"x": thing} for thing in NO_VALUES]
        for names in wrong:
            for source in ("a", "b"):
                with self.assertRaises(BadNames, msg=names):
                    acted({"a": [("print", "b")]}, source, names)

    def test_names_that_are_some(self):
        for name, value in itertools.product(NAMES, VALUES):
            self.assertEqual(set(acted({}, "a", {name: value})[2]), {name})
        self.assertEqual(acted({}, "a", {})[2], {})

    def test_plays_come_ahead_of_names(self):
        with self.assertRaises(BadPlay):
            acted({"a": 1}, "a", 5)
        with self.assertRaises(BadNames):
            acted({}, "a", 5)


class Told(unittest.TestCase):
    def test_errors(self):
        for error, text in (
            (("A", "b"), "A: b\n"), (("a.B", ""), "a.B\n"), (["A", "b: c\nd"], "A: b: c\nd\n"), (("A", " "), "A:  \n"),
            (("A", "b\n"), "A: b\n\n"),
        ):
            self.assertEqual(error_text(error), text)
            self.assertEqual(traceback_text(error), "Traceback (most recent call last):\n    ...\n" + text)

    def test_errors_of_plays(self):
        error = acted({}, "a")[1]
        self.assertEqual(error_text(error), "SyntaxError: invalid syntax\n")
        error = acted({"a": [("show", "x")]}, "a")[1]
        self.assertEqual(traceback_text(error), "Traceback (most recent call last):\n    ...\nNameError: name 'x' is not defined\n")

    def test_ended(self):
        for printed, got in (("", ""), ("a", "a\n"), ("a\n", "a\n"), ("\n", "\n"), ("a\n\n", "a\n\n"), ("a\nb", "a\nb\n"), (" ", " \n"), ("\t", "\t\n")):
            self.assertEqual(ended(printed), got)

    def test_by_name(self):
        self.assertEqual(error_text(error=("A", "")), "A\n")
        self.assertEqual(traceback_text(error=("A", ""))[-2:], "A\n")
        self.assertEqual(ended(printed="a"), "a\n")
        self.assertIs(is_play(thing={}), True)


if __name__ == "__main__":
    unittest.main()
