"""[36] to [40]: modules as data, the tests of their docs, and how they are run together."""

import copy
import itertools
import unittest

from promptyard.errors import BadFlag, BadKey, BadModule, BadNames, BadPlay, BadText
from promptyard.finding import find_tests, is_module, tested
from promptyard.running import Runner
from promptyard.texts import examples_of

SORTS = ["function", "class", "property", "static", "class method", "value"]

NO_TEXTS = [True, 0, 5, [], ["a"], (), {}, {"a": "b"}]

NO_COUNTS = [True, False, -1, "", "1", [], {}, (1,)]

NO_NAMES = [True, 0, "", "x", [], (), {"x": {}}, {"1": 1}, {1: 1}, {"x": [{}]}, {"a.b": None}, [("x", 1)]]


def member(sort="function", doc="d", **more):
    """A member with a doc."""
    return {"sort": sort, "doc": doc, **more}


def names_of(module, **more):
    """The names of the tests of a module, in order."""
    return [test.name for test in find_tests(module, **more)]


def met(members, **more):
    """The names, behind that of the module, of the tests of its members, in ascending order."""
    return [name[2:] for name in names_of({"name": "m", "members": members}, **more)]


class IsModule(unittest.TestCase):
    def is_one(self, module, answer=True):
        self.assertIs(is_module(module), answer, module)
        if answer:
            self.assertIsInstance(find_tests(module), list)
        else:
            with self.assertRaises(BadModule, msg=module):
                find_tests(module)

    def members(self, answer, **members):
        """Hold a module with members, at all depths and under a key."""
        self.is_one({"name": "m", "members": members}, answer)
        self.is_one({"name": "m", "members": {"a": {"sort": "value"}, **members, "b": {"sort": "value"}}}, answer)
        inner = {"C": {"sort": "class", "members": members}}
        self.is_one({"name": "m", "members": inner}, answer)
        self.is_one({"name": "m", "members": {"D": {"sort": "class", "members": inner}}}, answer)
        self.is_one({"name": "m", "tests": {"k": {"sort": "class", "members": members}}}, answer)

    def test_modules(self):
        for module in (
            {"name": "m"}, {"name": "a b.c"}, {"doc": None, "name": "m", "file": None},
            {"name": "m", "doc": "", "file": "", "names": {}, "members": {}, "tests": {}},
            {"name": "m", "doc": "a", "file": "f", "names": {"x": (1, [None])}, "members": {"x": {"sort": "value"}}, "tests": {"a": ""}},
        ):
            self.is_one(module)

    def test_things_that_are_no_dicts(self):
        for thing in (None, True, 0, "", "m", [], (), [("name", "m")], ["name"], "name"):
            self.is_one(thing, False)

    def test_names_of_modules(self):
        for module in ({}, {"doc": "a"}, {"name": ""}, {"name": None}, {"Name": "m"}, {("name",): "m"}):
            self.is_one(module, False)
        for name in NO_TEXTS:
            self.is_one({"name": name}, False)

    def test_docs_and_files(self):
        for key, part in itertools.product(["doc", "file"], NO_TEXTS):
            self.is_one({"name": "m", key: part}, False)

    def test_names_of_tests(self):
        for names in NO_NAMES + [None]:
            self.is_one({"name": "m", "names": names}, False)

    def test_other_keys(self):
        for key in ("line", "sort", "mark", "module", "", "Doc", 0, None, True, ("doc",)):
            self.is_one({"name": "m", key: None}, False)
            self.is_one({"name": "m", key: "function"}, False)
            self.is_one({"name": "m", key: {}}, False)

    def test_dicts_of_members(self):
        for part in (None, True, 0, "", "a", [], (), [{"sort": "value"}], [("a", {"sort": "value"})]):
            self.is_one({"name": "m", "members": part}, False)
            self.is_one({"name": "m", "members": {"C": {"sort": "class", "members": part}}}, False)
            self.members(False, C={"sort": "class", "members": part})
        for name in ("a", "_", "A1_", "None"):
            self.members(True, **{name: {"sort": "value"}})
        for name in ("", "1", "a.b", "a b", "a-", "\u00e9"):
            self.members(False, **{name: {"sort": "value"}})
        for name in (1, None, True, ("a",)):
            self.is_one({"name": "m", "members": {name: {"sort": "value"}}}, False)

    def test_sorts(self):
        for sort in SORTS:
            self.members(True, a={"sort": sort})
        for sort in (None, True, 0, "", "Function", "method", "class-method", "classmethod", "module", [], ["class"], ("class",), {}):
            self.members(False, a={"sort": sort})
        for thing in (None, True, 0, "", "function", [], {}, {"doc": "a"}, ["sort"], "sort", ("sort", "class"), [("sort", "class")]):
            self.members(False, a=thing)

    def test_keys_of_members(self):
        for sort in SORTS:
            self.members(True, a={"sort": sort, "doc": "a", "module": "m", "line": 0, "mark": 0})
            self.members(True, a={"mark": "", "line": None, "module": " ", "doc": None, "sort": sort})
            for key in ("name", "file", "names", "tests", "Doc", "", 0, None, ("doc",)):
                self.members(False, a={"sort": sort, key: None})
                self.members(False, a={"sort": sort, key: "a"})
                self.members(False, a={"sort": sort, key: {}})
        for doc in NO_TEXTS:
            self.members(False, a=member(doc=doc))
        for module in NO_TEXTS + ["", None]:
            self.members(False, a=member(module=module))
        for line in NO_COUNTS:
            self.members(False, a=member(line=line))
        for line in (None, 0, 1, 10 ** 29):
            self.members(True, a=member(line=line))
        for mark in (None, True, False, [], (), (1,), {}):
            self.members(False, a=member(mark=mark))
        for mark in (0, -5, 10 ** 29, "", "a"):
            self.members(True, a=member(mark=mark))

    def test_members_stand_with_classes_alone(self):
        for sort in SORTS:
            for members in ({}, {"b": {"sort": "value"}}):
                self.members(sort == "class", a={"sort": sort, "members": members})
                self.members(sort == "class", a={"members": members, "sort": sort})

    def test_things_under_keys(self):
        for part in (None, True, 0, "", "a", [], (), ["a"], [("a", "b")]):
            self.is_one({"name": "m", "tests": part}, False)
        for thing in ("", "a", {"sort": "function"}, {"sort": "class", "members": {}}):
            self.is_one({"name": "m", "tests": {"a": thing, "": thing, "a b.c": thing}})
            for key in (0, None, True, (), ("a", 1)):
                self.assertIs(is_module({"name": "m", "tests": {"a": "", key: thing}}), True)
        for thing in (None, True, 0, [], (), ["a"], {}, {"doc": "a"}, {"sort": "module"}, {"sort": "function", "members": {}}):
            self.is_one({"name": "m", "tests": {"a": thing}}, False)
            self.is_one({"name": "m", "tests": {"a": "b", "c": thing, "d": "e"}}, False)


class LookedAt(unittest.TestCase):
    def test_a_module_alone(self):
        self.assertEqual(find_tests({"name": "m"}), [])
        (test,) = find_tests({"name": "m.n", "doc": "\n>>> a\n1\n", "file": "f"})
        self.assertEqual((test.name, test.file, test.line), ("m.n", "f", 0))
        self.assertEqual(test.examples(), examples_of("\n>>> a\n1\n"))
        self.assertIs(type(find_tests({"name": "m"})), list)

    def test_sorts_in_a_module_and_in_a_class(self):
        members = {sort.replace(" ", "_"): member(sort) for sort in SORTS}
        self.assertEqual(met(members), ["class", "function"])
        inner = {"C": member("class", members=members)}
        self.assertEqual(met(inner), ["C", "C.class", "C.class_method", "C.function", "C.property", "C.static"])
        found = names_of({"name": "m", "tests": {"k": inner["C"]}})
        self.assertEqual(found, ["m.tests.k" + name for name in ("", ".class", ".class_method", ".function", ".property", ".static")])

    def test_classes_in_classes(self):
        deep = {"A": member("class", members={"B": member("class", members={"C": member("class", members={"f": member("static")})})})}
        self.assertEqual(met(deep), ["A", "A.B", "A.B.C", "A.B.C.f"])
        found = names_of({"name": "m", "tests": {"k": deep["A"]}})
        self.assertEqual(found, ["m.tests.k", "m.tests.k.B", "m.tests.k.B.C", "m.tests.k.B.C.f"])

    def test_members_from_elsewhere(self):
        for sort in SORTS:
            for place, is_here in ((None, True), ("m", True), ("n", False), ("M", False), ("m.m", False)):
                more = {} if place is None else {"module": place}
                found = ["a"] if is_here and sort in ("function", "class") else []
                self.assertEqual(met({"a": member(sort, **more)}), found, (sort, place))
                found = [] if sort == "value" or not (is_here or sort == "property") else ["C.a"]
                self.assertEqual(met({"C": member("class", members={"a": member(sort, **more)})}), ["C"] + found, (sort, place))

    def test_what_stands_in_a_class_from_elsewhere(self):
        inner = {"f": member(), "g": member(module="n"), "h": member(module="m"), "p": member("property", module="n")}
        self.assertEqual(met({"C": member("class", module="n", members=inner)}), [])
        found = names_of({"name": "m", "tests": {"C": member("class", module="n", members=inner)}})
        self.assertEqual(found, ["m.tests.C", "m.tests.C.f", "m.tests.C.h", "m.tests.C.p"])

    def test_recurse(self):
        module = {
            "name": "m", "doc": "d", "members": {"f": member(), "C": member("class", members={"g": member()})},
            "tests": {"t": "d", "f": member(), "C": member("class", members={"g": member()})},
        }
        found = ["m.tests.C", "m.tests.f", "m.tests.t"]
        self.assertEqual(names_of(module, recurse=False), ["m"] + found)
        self.assertEqual(names_of(module, recurse=True), ["m", "m.C", "m.C.g", "m.f", "m.tests.C", "m.tests.C.g"] + found[1:])
        self.assertEqual(names_of(module), names_of(module, recurse=True))

    def test_things_under_keys(self):
        things = {"b": "x", "a": member(module="n"), "": "y", "C": member("class", module="n"), "s": member("static"), "c": member("class method")}
        self.assertEqual(names_of({"name": "m", "tests": things}), ["m.tests." + key for key in sorted(things)])
        (test,) = find_tests({"name": "m", "file": "f", "tests": {"a.b c": ">>> a"}})
        self.assertEqual((test.name, test.file, test.line, test.examples()), ("m.tests.a.b c", "f", None, examples_of(">>> a")))

    def test_empty_docs(self):
        for doc in (None, ""):
            module = {
                "name": "m", "doc": doc, "members": {"C": member("class", doc, members={"p": member("property", doc)})},
                "tests": {"f": member("function", doc), "t": ""},
            }
            self.assertEqual(names_of(module), [])
            self.assertEqual(names_of(module, exclude_empty=True), [])
            found = find_tests(module, exclude_empty=False)
            self.assertEqual([test.name for test in found], ["m", "m.C", "m.C.p", "m.tests.f", "m.tests.t"])
            self.assertEqual([test.examples() for test in found], [[]] * 5)
        self.assertEqual(names_of({"name": "m", "members": {"f": {"sort": "function"}}}, exclude_empty=False), ["m", "m.f"])
        # A doc of blanks is not empty, and what stands in an empty class is looked at.
        self.assertEqual(names_of({"name": "m", "doc": " ", "tests": {"a": "\n"}}), ["m", "m.tests.a"])
        self.assertEqual(met({"C": member("class", "", members={"f": member()})}), ["C.f"])

    def test_lines_and_files(self):
        for line in (None, 0, 7):
            for module in (
                {"name": "m", "members": {"f": member(line=line)}}, {"name": "m", "tests": {"f": member(line=line)}},
                {"name": "m", "members": {"C": member("class", "", members={"f": member("static", line=line)})}},
            ):
                (test,) = find_tests(module)
                self.assertEqual((test.line, test.file), (line, None))
        (test,) = find_tests({"name": "m", "file": "", "members": {"f": member()}})
        self.assertEqual((test.line, test.file), (None, None))
        (test,) = find_tests({"name": "m", "doc": "d", "file": "a b"})
        self.assertEqual((test.line, test.file), (0, "a b"))


class Marks(unittest.TestCase):
    def test_the_same_thing_is_looked_at_once(self):
        self.assertEqual(met({"b": member(mark=1), "a": member(mark=1), "c": member(mark=2)}), ["b", "c"])
        self.assertEqual(met({"b": member(mark="x"), "a": member(mark="x"), "c": member(mark="")}), ["b", "c"])

    def test_marks_of_other_kinds_differ(self):
        self.assertEqual(met({"a": member(mark=1), "b": member(mark="1"), "c": member(mark=-1), "d": member(mark=0), "e": member(mark="")}), list("abcde"))

    def test_things_without_marks_are_all_different(self):
        self.assertEqual(met({"a": member(), "b": member(), "c": member(mark=0)}), ["a", "b", "c"])

    def test_a_thing_counts_though_it_has_no_test(self):
        self.assertEqual(met({"a": member(doc="", mark=1), "b": member(mark=1)}), [])
        self.assertEqual(met({"a": member(doc="", mark=1), "b": member(mark=1)}, exclude_empty=False), ["", "a"])

    def test_things_that_are_not_looked_at_do_not_count(self):
        self.assertEqual(met({"a": member(mark=1, module="n"), "b": member(mark=1)}), ["b"])
        self.assertEqual(met({"a": member("static", mark=1), "b": member(mark=1)}), ["b"])
        self.assertEqual(met({"A": member("class", mark=1, module="n", members={"f": member(mark=2)}), "b": member(mark=2)}), ["b"])
        module = {"name": "m", "members": {"a": member(mark=1)}, "tests": {"b": member(mark=1)}}
        self.assertEqual(names_of(module, recurse=False), ["m.tests.b"])
        self.assertEqual(names_of(module), ["m.a"])

    def test_the_class_that_it_stands_in(self):
        inner = {"D": member("class", mark=1, members={"f": member()}), "g": member()}
        self.assertEqual(met({"C": member("class", mark=1, members=inner)}), ["C", "C.g"])
        deeper = {"E": member("class", members={"C": member("class", mark="c")}), "h": member()}
        self.assertEqual(met({"C": member("class", mark="c", members=deeper)}), ["C", "C.E", "C.h"])

    def test_at_other_depths(self):
        # The members of the first class are looked at ahead of the next member of the module.
        members = {"C": member("class", members={"D": member("class", members={"f": member(mark=1)}), "f": member(mark=1)}), "f": member(mark=1)}
        self.assertEqual(met(members), ["C", "C.D", "C.D.f"])
        self.assertEqual(met({"f": member(mark=1), **members}), ["C", "C.D", "f"])
        module = {"name": "m", "members": members, "tests": {"a": member(mark=1), "b": member(mark=2), "c": member("static", mark=2)}}
        self.assertEqual(names_of(module), ["m.C", "m.C.D", "m.C.D.f", "m.tests.b"])

    def test_nothing_happens_for_a_class_again(self):
        one = member("class", mark=1, members={"f": member()})
        self.assertEqual(met({"A": one, "B": member("class", mark=1, members={"g": member()})}), ["A", "A.f"])
        self.assertEqual(met({"A": member("class", mark=1), "B": one}), ["A"])

    def test_texts_are_never_the_same(self):
        self.assertEqual(names_of({"name": "m", "tests": {"a": "x", "b": "x"}}), ["m.tests.a", "m.tests.b"])

    def test_each_call_begins_anew(self):
        module = {"name": "m", "members": {"a": member(mark=1)}}
        self.assertEqual(names_of(module), names_of(module))


class Order(unittest.TestCase):
    def test_by_names(self):
        members = {"b": member(), "B": member("class", members={"z": member(), "a": member()}), "a_": member(), "a": member("class", members={"b": member()})}
        module = {"name": "m", "doc": "d", "members": members, "tests": {"b": "d", "a": "d"}}
        found = names_of(module)
        self.assertEqual(found, ["m", "m.B", "m.B.a", "m.B.z", "m.a", "m.a.b", "m.a_", "m.b", "m.tests.a", "m.tests.b"])
        self.assertEqual(found, sorted(found))

    def test_equal_names_as_they_were_looked_at(self):
        inner = {"a": member(doc="first", line=1)}
        members = {"tests": member("class", members=inner)}
        module = {"name": "m", "members": members, "tests": {"a": member(line=2), "a.b": "x"}}
        self.assertEqual([(test.name, test.line) for test in find_tests(module)], [("m.tests", None), ("m.tests.a", 1), ("m.tests.a", 2), ("m.tests.a.b", None)])
        module = {"name": "m", "tests": {"a.b": member(line=3), "a": member("class", members={"b": member(line=4)})}}
        self.assertEqual([(test.name, test.line) for test in find_tests(module)], [("m.tests.a", None), ("m.tests.a.b", 3), ("m.tests.a.b", 4)])
        module["tests"] = dict(reversed(list(module["tests"].items())))
        self.assertEqual([(test.name, test.line) for test in find_tests(module)], [("m.tests.a", None), ("m.tests.a.b", 4), ("m.tests.a.b", 3)])


class Names(unittest.TestCase):
    def names(self, own=None, **more):
        module = {"name": "m", "doc": "d", "tests": {"a": "d"}}
        if own is not None:
            module["names"] = own
        one, two = find_tests(module, **more)
        self.assertEqual(one.names(), two.names())
        return one.names()

    def test_those_of_the_module(self):
        self.assertEqual(self.names(), {"_name": "__main__"})
        self.assertEqual(self.names({}), {"_name": "__main__"})
        self.assertEqual(self.names({"x": (1,)}), {"x": [1], "_name": "__main__"})
        self.assertEqual(self.names({"_name": None}), {"_name": None})

    def test_those_that_are_passed(self):
        self.assertEqual(self.names({"x": 1}, names={"y": 2}), {"y": 2, "_name": "__main__"})
        self.assertEqual(self.names({"x": 1}, names={}), {"_name": "__main__"})
        self.assertEqual(self.names({"x": 1}, names=None), {"x": 1, "_name": "__main__"})
        self.assertEqual(self.names({"_name": 1}, names={"_name": "n"}), {"_name": "n"})
        self.assertEqual(self.names({"_name": 1}, names={}), {"_name": "__main__"})

    def test_more_are_laid_over_them(self):
        self.assertEqual(self.names({"x": 1, "y": 2}, more={"x": (3,), "z": 4}), {"x": [3], "y": 2, "z": 4, "_name": "__main__"})
        self.assertEqual(self.names({"x": 1}, names={"x": 2, "y": 3}, more={"x": None}), {"x": None, "y": 3, "_name": "__main__"})
        self.assertEqual(self.names(more={"_name": "m"}), {"_name": "m"})
        self.assertEqual(self.names({"x": 1}, more={}), self.names({"x": 1}, more=None))

    def test_each_test_has_its_own(self):
        module = {"name": "m", "doc": ">>> a", "names": {"x": [[1]]}, "tests": {"a": ">>> b"}}
        names = {"y": [[2]]}
        before = copy.deepcopy((module, names))
        one, two = find_tests(module, more=names)
        Runner({"a\n": [("set", "x", 5), ("delete", "y")]}).run(one, clear=False)
        self.assertEqual((one.names(), two.names()), ({"x": 5, "_name": "__main__"}, {"x": [[1]], "y": [[2]], "_name": "__main__"}))
        names["y"][0].append(3)
        module["names"]["x"][0].append(3)
        self.assertEqual(two.names(), {"x": [[1]], "y": [[2]], "_name": "__main__"})
        names["y"][0].pop()
        module["names"]["x"][0].pop()
        self.assertEqual((module, names), before)


class Errors(unittest.TestCase):
    def raised(self, module, kind, **more):
        before = copy.deepcopy(module)
        for recurse in (True, False):
            with self.assertRaises(kind) as caught:
                find_tests(module, recurse=recurse, **more)
        self.assertEqual(module, before)
        return caught.exception

    def test_names(self):
        for names in NO_NAMES:
            self.raised({"name": "m"}, BadNames, names=names)
            self.raised({"name": "m"}, BadNames, more=names)
            self.raised({"name": "m"}, BadNames, names={}, more=names)

    def test_which_is_told_first(self):
        wrong = {"name": "m", "doc": ">>>a", "tests": {1: "a"}}
        self.raised({**wrong, "file": 5}, BadModule, names=5, more=5)
        self.raised(wrong, BadNames, names=5)
        self.raised(wrong, BadNames, more=5)
        self.assertEqual(self.raised(wrong, BadText, names={}, more={}).found, ">>>")

    def test_keys(self):
        for key in (0, 5, None, True, (), ("a", (1,))):
            for thing in ("a", "", member(), member(mark=1), member("property")):
                found = self.raised({"name": "m", "members": {"f": member(mark=1)}, "tests": {"a": "b", key: thing, (0,): "c"}}, BadKey).key
                self.assertEqual(repr(found), repr(key))

    def test_sorts_under_keys(self):
        for sort in ("property", "value"):
            self.assertEqual(self.raised({"name": "m", "tests": {"a": "b", "c": member(sort), 1: "d"}}, BadKey).key, "c")
            self.assertEqual(self.raised({"name": "m", "tests": {"": member(sort, None)}}, BadKey).key, "")
            # Also one that was looked at ahead.
            tests = {"a": member(mark=1), "b": member(sort, mark=1)}
            self.assertEqual(self.raised({"name": "m", "tests": tests}, BadKey).key, "b")
        members = {"C": member("class", members={"p": member("property", mark=1)})}
        self.assertEqual(self.raised({"name": "m", "members": members, "tests": {"b": member("property", mark=1)}}, BadKey).key, "b")
        # Within classes they are no keys.
        self.assertEqual(len(find_tests({"name": "m", "tests": {"b": member("class", members=members["C"]["members"])}})), 2)

    def test_docs_that_are_wrong(self):
        wrong = ">>> a\n\n>>>b"
        for module in (
            {"name": "m", "doc": wrong}, {"name": "m", "tests": {"a": wrong}}, {"name": "m", "tests": {"a": member(doc=wrong)}},
        ):
            error = self.raised(module, BadText)
            self.assertEqual((error.line, error.reason, error.found), (3, "blank", ">>>"))
        for members in ({"f": member(doc=wrong)}, {"C": member("class", members={"p": member("property", wrong)})}):
            with self.assertRaises(BadText):
                find_tests({"name": "m", "members": members})
            self.assertEqual(find_tests({"name": "m", "members": members}, recurse=False), [])

    def test_docs_that_are_not_looked_at_may_be_wrong(self):
        for members in (
            {"f": member(doc=">>>a", module="n")}, {"f": member("static", ">>>a")}, {"a": member(mark=1), "f": member(doc=">>>a", mark=1)},
            {"C": member("class", members={"v": member("value", ">>>a")})}, {"C": member("class", members={"v": member(doc=">>>a", module="n")})},
        ):
            self.assertLess(len(find_tests({"name": "m", "members": members})), 2)

    def test_the_first_in_the_order_in_which_things_are_looked_at(self):
        docs = [f">>>{sign}" if sign == "a" else f">>> {sign}\n...{sign}" for sign in "ab"]
        members = {"z": member("class", members={"y": member(doc=docs[1])}), "a": member(doc=docs[0])}
        with self.assertRaises(BadText) as caught:
            find_tests({"name": "m", "members": members, "tests": {1: "a"}})
        self.assertEqual(caught.exception.line, 2)
        self.assertEqual(self.raised({"name": "m", "tests": {"b": "", 1: "a", "a": docs[0]}}, BadKey).key, 1)
        self.assertEqual(self.raised({"name": "m", "tests": {"b": docs[0], 1: "a"}}, BadText).line, 1)
        self.assertEqual(self.raised({"name": "m", "tests": {"b": docs[1], "a": docs[0], 1: "a"}}, BadText).line, 2)
        self.assertEqual(self.raised({"name": "m", "doc": docs[1], "tests": {1: "a", "b": docs[0]}}, BadText).line, 2)


class Tested(unittest.TestCase):
    play = {"one\n": [("print", "1\n")], "x\n": [("show", "x")], "put x\n": [("set", "x", 2)]}
    module = {
        "name": "m", "file": "f.py", "doc": "\n>>> one\n1\n>>> put x\n", "names": {"x": 1},
        "members": {
            "g": member(doc=">>> x\n1\n>>> one\n2\n", line=30), "e": member(doc=""),
            "C": member("class", ">>> x\n2\n", line=10, members={"p": member("property", ">>> x # doctest: +SKIP\n")}),
        },
        "tests": {"t": ">>> one\n1\n"},
    }

    def test_all_at_once(self):
        counts, report, summary = tested(self.module, self.play)
        runner = Runner(self.play)
        reports = [runner.run(test)[2] for test in find_tests(self.module, exclude_empty=False)]
        self.assertEqual((counts, report, summary), (runner.total(), "".join(reports), runner.summary()))
        self.assertEqual(counts, (2, 7, 1))
        self.assertEqual(report, (
            "*" * 70 + '\nFile "f.py", line 11, in m.C\nFailed example:\n    x\nExpected:\n    2\nGot:\n    1\n'
            + "*" * 70 + '\nFile "f.py", line 33, in m.g\nFailed example:\n    one\nExpected:\n    2\nGot:\n    1\n'
        ))
        self.assertEqual(summary, (
            "*" * 70 + "\n2 items had failures:\n   1 of   1 in m.C\n   1 of   2 in m.g\n***Test Failed*** 2 failures and 1 skipped test.\n"
        ))
        self.assertEqual([type(thing) for thing in (counts, report, summary)], [tuple, str, str])
        self.assertIs(type(tested(self.module, self.play)), tuple)

    def test_verbosely(self):
        runner = Runner(self.play)
        reports = [runner.run(test, verbose=True)[2] for test in find_tests(self.module, exclude_empty=False)]
        found = tested(self.module, self.play, (), verbose=True)
        self.assertEqual(found, (runner.total(), "".join(reports), runner.summary(True)))
        self.assertIn("1 item had no tests:\n    m.e\n", found[2])
        self.assertTrue(found[1].startswith("Trying:\n    one\nExpecting:\n    1\nok\n"))

    def test_empty_docs_are_tests_unless_told(self):
        self.assertEqual(tested({"name": "m"}, {}, verbose=True), ((0, 0, 0), "", "1 item had no tests:\n    m\n0 tests in 1 item.\n0 passed.\nTest passed.\n"))
        self.assertEqual(tested({"name": "m"}, {}, verbose=True, exclude_empty=True), ((0, 0, 0), "", "0 tests in 0 items.\n0 passed.\nTest passed.\n"))
        self.assertEqual(tested({"name": "m"}, {}), ((0, 0, 0), "", ""))

    def test_flags_and_names(self):
        self.assertEqual(tested(self.module, self.play, ["SKIP"])[0], (0, 7, 7))
        self.assertEqual(tested(self.module, self.play, ("FAIL_FAST",))[0], (2, 7, 1))
        self.assertEqual(tested(self.module, self.play, names={"x": 2})[0], (2, 7, 1))
        self.assertEqual(tested(self.module, self.play, more={"x": 3}, names={})[0], (3, 7, 1))
        self.assertEqual(tested(self.module, self.play, more={"x": 3})[0], tested(self.module, self.play, names={"x": 3})[0])
        self.assertEqual(tested(play=self.play, flags=["SKIP"], module=self.module)[0], (0, 7, 7))

    def test_names_of_one_test_do_not_reach_the_next(self):
        module = {"name": "m", "doc": ">>> put x", "tests": {"a": ">>> x"}}
        self.assertIn("NameError: name 'x' is not defined\n", tested(module, self.play)[1])

    def test_tests_with_equal_names_are_one_item(self):
        module = {"name": "m", "members": {"tests": member("class", "", members={"a": member(doc=">>> one")})}, "tests": {"a": ">>> one\n1"}}
        found = tested(module, self.play, exclude_empty=True)
        self.assertEqual((found[0], found[2]), ((1, 2, 0), "*" * 70 + "\n1 item had failures:\n   1 of   2 in m.tests.a\n***Test Failed*** 1 failure.\n"))

    def test_errors(self):
        wrong = {"name": "m", "doc": ">>>a"}
        for call, kind in (
            (lambda: tested(5, 5, ["?"], names=5), BadPlay), (lambda: tested(5, {}, ["?"], names=5), BadFlag), (lambda: tested(5, {}, names=5), BadModule),
            (lambda: tested(wrong, {}, names=5), BadNames), (lambda: tested(wrong, {}, more=5), BadNames), (lambda: tested(wrong, {}), BadText),
            (lambda: tested({"name": "m", "tests": {"a": member("value")}}, {}), BadKey),
        ):
            self.assertRaises(kind, call)

    def test_nothing_is_changed(self):
        before = copy.deepcopy((self.module, self.play))
        tested(self.module, self.play)
        self.assertEqual((self.module, self.play), before)


if __name__ == "__main__":
    unittest.main()
