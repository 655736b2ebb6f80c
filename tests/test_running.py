"""[29] to [32]: tests, what runs them, how names go on, and how counts are added up."""

import copy
import unittest

from promptyard.errors import BadFlag, BadNames, BadPlay, BadText, Failed, Unexpected
from promptyard.running import Runner, Test, succeeds, test_of
from promptyard.texts import Example, examples_of

# What some sources do, which the examples here have.
PLAY = {
    "one\n": [("print", "1\n")],
    "bare\n": [("print", "1")],
    "nothing\n": [],
    "true\n": [("print", "True\n")],
    "blank\n": [("print", "a\n\nb\n")],
    "wide\n": [("print", "a   b\n")],
    "put x\n": [("set", "x", 5)],
    "x\n": [("show", "x")],
    "drop x\n": [("delete", "x")],
    "fall\n": [("raise", "ValueError", "bad")],
    "far\n": [("print", "ahead\n"), ("raise", "far.off.ValueError", "worse")],
    "bare fall\n": [("raise", "KeyError", "")],
    "half\n": [("set", "x", 1), ("print", "half"), ("raise", "E", "f"), ("set", "x", 2)],
}

NO_NAMES = [True, 0, "", "x", [], (), {"x": {}}, {"1": 1}, {1: 1}, {"x": [{}]}, {"a.b": None}, [("x", 1)]]

NO_PLAYS = [None, True, 0, "", [], (), {"a": None}, {1: []}, {"a": [("print", 1)]}, {"a": ["print"]}]

ERROR = "Traceback (most recent call last):\n    ...\n"

FIRST = "REPORT_ONLY_FIRST_FAILURE"


def made(*rows):
    """A test of examples, each of them a source and a want with options behind."""
    return Test([Example(source, want, options=options) for source, want, options in rows])


def words(rows, flags=(), **more):
    """The words of a run of a test of examples."""
    return Runner(PLAY, flags).run(made(*rows), **more)[1]


class Tests(unittest.TestCase):
    def test_attributes(self):
        test = Test([])
        self.assertEqual((test.name, test.file, test.line), ("text", None, None))
        test = Test([], None, "a.b", "c.txt", 7)
        self.assertEqual((test.name, test.file, test.line), ("a.b", "c.txt", 7))
        test = Test(examples=(), names={}, name="", file="", line=0)
        self.assertEqual((test.name, test.file, test.line), ("", None, 0))
        self.assertEqual(set(vars(test)) & {"name", "file", "line"}, {"name", "file", "line"})

    def test_examples(self):
        many = [Example("a"), Example("b", "1", line=3), Example("a")]
        for kind in (list, tuple):
            test = Test(kind(many))
            self.assertEqual(test.examples(), many)
            self.assertIs(type(test.examples()), list)
        self.assertEqual(Test([]).examples(), [])

    def test_names(self):
        self.assertEqual(Test([]).names(), {})
        self.assertEqual(Test([], None).names(), {})
        self.assertEqual(Test([], {}).names(), {})
        self.assertEqual(Test([], {"x": (1, [2, ()]), "y": None}).names(), {"x": [1, [2, []]], "y": None})

    def test_things_are_copied(self):
        many = [Example("x")]
        names = {"x": [1, [2]]}
        test = Test(many, names)
        many.append(Example("b"))
        names["x"][1].append(3)
        names["y"] = 1
        self.assertEqual((test.examples(), test.names()), ([Example("x")], {"x": [1, [2]]}))
        test.examples().append(Example("c"))
        test.names()["x"][1].append(4)
        test.names()["z"] = 2
        self.assertEqual((test.examples(), test.names()), ([Example("x")], {"x": [1, [2]]}))

    def test_names_that_are_none(self):
        for names in NO_NAMES:
            with self.assertRaises(BadNames, msg=names):
                Test([], names)
            with self.assertRaises(BadNames, msg=names):
                test_of("", names)

    def test_shown(self):
        many = [Example("a")] * 12
        self.assertEqual(Test([]).shown(), "<DocTest text from None:None (no examples)>")
        self.assertEqual(Test(many[:1], None, "a.b", "c.txt", 0).shown(), "<DocTest a.b from c.txt:0 (1 example)>")
        self.assertEqual(Test(many[:2], None, "a.b", "", 41).shown(), "<DocTest a.b from None:41 (2 examples)>")
        self.assertEqual(Test(many, None, "", "c d").shown(), "<DocTest  from c d:None (12 examples)>")

    def test_tests_of_texts(self):
        text = "a\n\n  >>> x # doctest: +SKIP\n  5\n>>> # b\n  >>> y"
        test = test_of(text)
        self.assertEqual(test.examples(), examples_of(text))
        self.assertEqual(len(test.examples()), 2)
        self.assertEqual((test.name, test.file, test.line, test.names()), ("text", None, None, {}))
        test = test_of(text, {"x": (1,)}, "n", "f", 3)
        self.assertEqual((test.name, test.file, test.line, test.names()), ("n", "f", 3, {"x": [1]}))
        test = test_of(line=0, file="", name="m", names=None, text="")
        self.assertEqual((test.name, test.file, test.line, test.names(), test.examples()), ("m", None, 0, {}, []))

    def test_texts_come_ahead_of_names(self):
        with self.assertRaises(BadText) as caught:
            test_of(">>> a\n>>>b", 5)
        self.assertEqual((caught.exception.line, caught.exception.reason, caught.exception.found), (2, "blank", ">>>"))
        with self.assertRaises(BadNames):
            test_of(">>> a\n>>> b", 5)


class Words(unittest.TestCase):
    def test_no_examples(self):
        runner = Runner(PLAY)
        self.assertEqual(runner.run(Test([])), ((0, 0, 0), [], ""))
        self.assertEqual(runner.run(Test([]), verbose=True), ((0, 0, 0), [], ""))
        self.assertEqual(runner.counts(), {"text": (0, 0, 0)})

    def test_counts_and_words(self):
        rows = [("one", "1", {}), ("one", "2", {}), ("fall", "", {}), ("x", "", {"SKIP": True}), ("nothing", "", {}), ("no such", "", {})]
        counts, found, report = Runner(PLAY).run(made(*rows))
        self.assertEqual(counts, (3, 6, 1))
        self.assertEqual(found, ["success", "failure", "error", "skipped", "success", "error"])
        self.assertEqual([type(counts), type(found), type(report)], [tuple, list, str])
        self.assertEqual(report.count("*" * 70), 3)

    def test_what_was_got_ends_with_a_line_feed(self):
        self.assertEqual(words([("bare", "1", {}), ("one", "1\n", {}), ("nothing", "", {}), ("nothing", "\n", {})]), ["success"] * 3 + ["failure"])

    def test_the_flags_of_the_runner(self):
        rows = [("one", "1", {}), ("true", "1", {}), ("blank", "a\n<BLANKLINE>\nb", {}), ("wide", "a b", {}), ("wide", "a...b", {})]
        for flags, found in (
            ([], "sssff"), (["ELLIPSIS"], "sssfs"), (["NORMALIZE_WHITESPACE"], "ssssf"), (["DONT_ACCEPT_BLANKLINE"], "ssfff"),
            (["DONT_ACCEPT_TRUE_FOR_1"], "sfsff"), (("ELLIPSIS", "NORMALIZE_WHITESPACE", "ELLIPSIS", FIRST), "sssss"),
        ):
            self.assertEqual("".join(word[0] for word in words(rows, flags)), found)

    def test_options_turn_flags_on_and_off_for_one_example(self):
        on = {"NORMALIZE_WHITESPACE": True}
        off = {"NORMALIZE_WHITESPACE": False}
        rows = [("wide", "a b", {}), ("wide", "a b", on), ("wide", "a b", {}), ("wide", "a b", off), ("wide", "a b", {})]
        self.assertEqual(words(rows), ["failure", "success", "failure", "failure", "failure"])
        self.assertEqual(words(rows, ["NORMALIZE_WHITESPACE"]), ["success", "success", "success", "failure", "success"])
        rows = [("wide", "a...b", {"ELLIPSIS": True, "NORMALIZE_WHITESPACE": False}), ("wide", "a b", {"ELLIPSIS": True})]
        self.assertEqual(words(rows, ["NORMALIZE_WHITESPACE"]), ["success", "success"])

    def test_the_options_of_the_example_count_and_not_its_source(self):
        example = Example("wide # doctest: +NORMALIZE_WHITESPACE", "a b", options={"ELLIPSIS": True})
        self.assertEqual(Runner(PLAY).run(Test([example]))[1], ["failure"])
        example = Example("wide # doctest: -NORMALIZE_WHITESPACE", "a b", options={"NORMALIZE_WHITESPACE": True})
        self.assertEqual(Runner(PLAY).run(Test([example]))[1], ["success"])

    def test_the_last_word_counts(self):
        text = ">>> wide # doctest: +ELLIPSIS, -ELLIPSIS\na...b\n>>> wide # doctest: -ELLIPSIS +ELLIPSIS\na...b\n"
        self.assertEqual(Runner(PLAY).run(test_of(text))[1], ["failure", "success"])
        self.assertEqual(Runner(PLAY, ["ELLIPSIS"]).run(test_of(text))[1], ["failure", "success"])

    def test_the_bare_source_is_acted(self):
        self.assertEqual(Runner(PLAY).run(test_of(">>> one \t # doctest: +ELLIPSIS\n1"))[1], ["success"])
        self.assertEqual(Runner({"one # doctest: +ELLIPSIS\n": []}).run(test_of(">>> one # doctest: +ELLIPSIS"))[1], ["error"])

    def test_skipped_ones_do_nothing(self):
        skip = {"SKIP": True}
        test = made(("put x", "", {}), ("drop x", "", skip), ("x", "5", {}), ("fall", "", skip), ("x", "", {"SKIP": False}))
        self.assertEqual(Runner(PLAY).run(test, clear=False)[1], ["success", "skipped", "success", "skipped", "failure"])
        test = made(("put x", "", {}), ("x", "5", {"SKIP": False}), ("put x", "", {"SKIP": False}))
        self.assertEqual(Runner(PLAY, ["SKIP"]).run(test, clear=False), ((1, 3, 1), ["skipped", "error", "success"], Runner(PLAY).run(made(("x", "5", {})))[2]))
        self.assertEqual(test.names(), {"x": 5})


class Errors(unittest.TestCase):
    def word(self, source, want, flags=(), **more):
        return Runner(PLAY, flags).run(Test([Example(source, want, **more)]))[1][0]

    def test_errors_that_are_awaited(self):
        self.assertEqual(self.word("fall", "", error="ValueError: bad"), "success")
        self.assertEqual(self.word("fall", "anything", error="ValueError: bad\n"), "success")
        self.assertEqual(self.word("bare fall", "", error="KeyError"), "success")
        self.assertEqual(self.word("fall", "", error="ValueError: good"), "failure")
        self.assertEqual(self.word("fall", "", error="ValueError"), "failure")
        self.assertEqual(self.word("no such", "", error="SyntaxError: invalid syntax"), "success")
        self.assertEqual(self.word("x", "", error="NameError: name 'x' is not defined"), "success")

    def test_what_was_printed_ahead_does_not_matter(self):
        self.assertEqual(self.word("far", "", error="far.off.ValueError: worse"), "success")
        self.assertEqual(self.word("far", "ahead\n", error="far.off.ValueError: better"), "failure")
        self.assertEqual(self.word("far", "ahead\n"), "error")

    def test_errors_that_are_not_awaited(self):
        for want in ("", "bad", "ValueError: bad", ERROR + "ValueError: bad"):
            self.assertEqual(self.word("fall", want), "error")

    def test_an_awaited_error_that_is_not_raised(self):
        self.assertEqual(self.word("one", "1", error="ValueError"), "success")
        self.assertEqual(self.word("one", "2", error="ValueError"), "failure")
        self.assertEqual(self.word("nothing", ERROR + "ValueError", error="ValueError"), "failure")

    def test_the_flags_in_force(self):
        for flags, want, word in (
            ([], "ValueError: worse", "failure"), (["IGNORE_EXCEPTION_DETAIL"], "ValueError: worse", "success"),
            (["IGNORE_EXCEPTION_DETAIL"], "off.ValueError", "success"), (["IGNORE_EXCEPTION_DETAIL"], "KeyError", "failure"),
            (["ELLIPSIS"], "far...: worse", "success"), (["ELLIPSIS"], "far...: bad", "failure"), ([], "far...: worse", "failure"),
        ):
            self.assertEqual(self.word("far", "", flags, error=want), word)
            options = {flag: True for flag in flags}
            self.assertEqual(self.word("far", "", error=want, options=options), word)
            options = {flag: False for flag in flags}
            self.assertEqual(self.word("far", "", flags, error=want, options=options), "failure")

    def test_errors_of_texts(self):
        text = f">>> far\n{ERROR}far.off.ValueError: worse\n>>> fall\n{ERROR}ValueError: worse\n>>> fall\nValueError: bad\n"
        self.assertEqual(Runner(PLAY).run(test_of(text))[1], ["success", "failure", "error"])


class FailFast(unittest.TestCase):
    well = ("one", "1", {})
    wrong = ("one", "2", {})
    fall = ("fall", "", {})

    def test_the_run_ends_behind_the_first_that_fails(self):
        self.assertEqual(words([self.well, self.wrong, self.well], ["FAIL_FAST"]), ["success", "failure"])
        self.assertEqual(words([self.well, self.fall, self.wrong], ["FAIL_FAST"]), ["success", "error"])
        self.assertEqual(words([self.well, self.well], ["FAIL_FAST"]), ["success", "success"])
        self.assertEqual(words([self.well, self.wrong, self.well, self.wrong]), ["success", "failure"] * 2)

    def test_as_an_option(self):
        fast = {"FAIL_FAST": True}
        slow = {"FAIL_FAST": False}
        rows = [("one", "2", slow), ("one", "1", slow), self.wrong, self.well]
        self.assertEqual(words(rows, ["FAIL_FAST"]), ["failure", "success", "failure"])
        self.assertEqual(words([("one", "2", fast), self.well]), ["failure"])

    def test_an_example_that_is_well_ends_it_too(self):
        fast = {"FAIL_FAST": True}
        self.assertEqual(words([("one", "1", fast), self.wrong, self.well, ("one", "1", fast), self.well]), ["success", "failure", "success", "success"])

    def test_a_skipped_one_does_not_end_it(self):
        skip = {"FAIL_FAST": True, "SKIP": True}
        self.assertEqual(words([self.wrong, ("one", "1", skip), self.well]), ["failure", "skipped", "success"])
        self.assertEqual(words([("one", "2", {"FAIL_FAST": False}), ("one", "1", {"SKIP": True}), self.well, self.well], ["FAIL_FAST"]), ["failure", "skipped", "success"])

    def test_a_run_ahead_does_not_count(self):
        runner = Runner(PLAY, ["FAIL_FAST"])
        for _ in range(2):
            self.assertEqual(runner.run(made(self.well, self.wrong, self.well)), runner.run(made(self.well, self.wrong, self.well)))
        self.assertEqual(runner.run(made(self.well, self.well))[1], ["success", "success"])
        self.assertEqual(runner.counts(), {"text": (4, 10, 0)})

    def test_names_are_taken_away_or_stay(self):
        rows = [("put x", "", {}), self.wrong, ("drop x", "", {})]
        test = made(*rows)
        Runner(PLAY, ["FAIL_FAST"]).run(test, clear=False)
        self.assertEqual(test.names(), {"x": 5})
        Runner(PLAY, ["FAIL_FAST"]).run(test)
        self.assertEqual(test.names(), {})


class Names(unittest.TestCase):
    def test_they_go_on_from_one_example_to_the_next(self):
        test = Test([Example("x", "[1]"), Example("put x"), Example("x", "5"), Example("drop x"), Example("x", "5")], {"x": (1,)})
        self.assertEqual(Runner(PLAY).run(test)[1], ["success"] * 4 + ["error"])

    def test_they_are_taken_away(self):
        for more, left in (({}, {}), ({"clear": True}, {}), ({"clear": False}, {"x": 5, "y": 6})):
            test = Test([Example("put x")], {"y": 6})
            Runner(PLAY).run(test, **more)
            self.assertEqual(test.names(), left)

    def test_a_second_run(self):
        examples = [Example("x", "5"), Example("put x")]
        test = Test(examples, {"x": 5})
        runner = Runner(PLAY)
        self.assertEqual(runner.run(test)[1], ["success", "success"])
        self.assertEqual(runner.run(test, clear=False)[1], ["error", "success"])
        self.assertEqual(runner.run(test)[1], ["success", "success"])
        self.assertEqual(runner.run(test)[1], ["error", "success"])
        self.assertEqual(test.examples(), examples)
        self.assertEqual(runner.counts(), {"text": (2, 8, 0)})

    def test_names_ahead_of_an_error_stay(self):
        test = Test([Example("half", "half\n")], {})
        self.assertEqual(Runner(PLAY).run(test, clear=False)[1], ["error"])
        self.assertEqual(test.names(), {"x": 1})

    def test_lists_are_not_shared(self):
        play = {"a\n": [("set", "x", [[1]]), ("copy", "y", "x")]}
        runner = Runner(play)
        test = Test([Example("a")])
        runner.run(test, clear=False)
        names = test.names()
        names["x"][0].append(2)
        self.assertEqual(names["y"], [[1]])
        self.assertEqual(test.names(), {"x": [[1]], "y": [[1]]})
        runner.run(test, clear=False)
        self.assertEqual(test.names(), {"x": [[1]], "y": [[1]]})


class Runners(unittest.TestCase):
    def test_plays_and_flags_that_are_none(self):
        for play in NO_PLAYS:
            for flags in ([], ["?"]):
                with self.assertRaises(BadPlay, msg=play):
                    Runner(play, flags)
                with self.assertRaises(BadPlay, msg=play):
                    succeeds(play, Test([]), flags)
        for flag in (None, True, 0, "", "skip", ["SKIP"], {"SKIP": 1}):
            for call in (lambda flags: Runner({}, flags), lambda flags: succeeds({}, Test([]), flags)):
                with self.assertRaises(BadFlag) as caught:
                    call(["SKIP", flag, "?"])
                self.assertEqual(repr(caught.exception.flag), repr(BadFlag(flag).flag))

    def test_play_and_flags_are_copied(self):
        value = [1]
        play = {"a\n": [["set", "x", value], ["show", "x"]], "b\n": [["print", "1"]]}
        flags = ["ELLIPSIS"]
        runner = Runner(play, flags)
        before = copy.deepcopy(play)
        value.append(2)
        play["a\n"].append(["print", "no"])
        play["b\n"][0][1] = "no"
        play["c\n"] = []
        flags[0] = "SKIP"
        test = Test([Example("a", "[...]"), Example("b", "1"), Example("c", "")])
        self.assertEqual(runner.run(test)[1], ["success", "success", "error"])
        runner = Runner(before)
        runner.run(Test([Example("a", "[1]")]))
        self.assertEqual(before, {"a\n": [["set", "x", [1]], ["show", "x"]], "b\n": [["print", "1"]]})

    def test_what_is_returned_is_new(self):
        runner = Runner(PLAY)
        found = runner.run(made(("one", "1", {})))[1]
        found.append("failure")
        counts = runner.counts()
        counts["text"] = counts["more"] = (9, 9, 9)
        self.assertEqual((runner.counts(), runner.total()), ({"text": (0, 1, 0)}, (0, 1, 0)))

    def test_counts_and_total(self):
        runner = Runner(PLAY)
        self.assertEqual((runner.counts(), runner.total()), ({}, (0, 0, 0)))
        rows = [Example("one", "1"), Example("one", "2"), Example("fall"), Example("x", options={"SKIP": True})]
        for name, many in (("b", 4), ("a", 1), ("c", 0), ("b", 2), ("B", 3)):
            runner.run(Test(rows[:many], None, name))
        self.assertEqual(list(runner.counts().items()), [("B", (2, 3, 0)), ("a", (0, 1, 0)), ("b", (3, 6, 1)), ("c", (0, 0, 0))])
        self.assertEqual(runner.total(), (5, 10, 1))
        self.assertEqual([type(counts) for counts in runner.counts().values()], [tuple] * 4)
        self.assertIs(type(runner.total()), tuple)

    def test_merge(self):
        one, two = Runner(PLAY), Runner(PLAY, ["SKIP"])
        one.run(Test([Example("one", "2")], None, "a"))
        one.run(Test([Example("one", "1")], None, "c"))
        two.run(Test([Example("one", "2")] * 2, None, "c"))
        two.run(Test([], None, "b"))
        self.assertIsNone(one.merge(two))
        self.assertEqual(list(one.counts().items()), [("a", (1, 1, 0)), ("b", (0, 0, 0)), ("c", (0, 3, 2))])
        self.assertEqual(one.total(), (1, 4, 2))
        self.assertEqual(two.counts(), {"b": (0, 0, 0), "c": (0, 2, 2)})
        one.merge(Runner({}))
        two.run(Test([Example("one", "2")], None, "b"))
        self.assertEqual(one.total(), (1, 4, 2))
        # The flags and the play of the other one do not come along.
        self.assertEqual(one.run(Test([Example("one", "1")], None, "c"))[1], ["success"])

    def test_merge_with_itself(self):
        runner = Runner(PLAY)
        runner.run(made(("one", "2", {}), ("one", "1", {}), ("one", "1", {"SKIP": True})))
        runner.run(Test([], None, "b"))
        runner.merge(runner)
        self.assertEqual(runner.counts(), {"b": (0, 0, 0), "text": (2, 6, 2)})
        runner.merge(other=runner)
        self.assertEqual(runner.total(), (4, 12, 4))

    def test_succeeds(self):
        test = Test([Example("x", "5"), Example("drop x"), Example("fall", options={"SKIP": True})], {"x": 5})
        for _ in range(2):
            self.assertIs(succeeds(PLAY, test), True)
            self.assertEqual(test.names(), {"x": 5})
        self.assertIs(succeeds(PLAY, Test([])), True)
        self.assertIs(succeeds({}, Test([])), True)
        self.assertIs(succeeds({}, test), False)
        self.assertIs(succeeds(PLAY, made(("one", "1", {}), ("one", "2", {}))), False)
        self.assertIs(succeeds(PLAY, made(("one", "1", {}), ("fall", "", {}), ("one", "1", {}))), False)
        self.assertIs(succeeds(flags=["SKIP"], test=made(("one", "2", {})), play=PLAY), True)
        self.assertIs(succeeds(PLAY, made(("wide", "a b", {})), ("NORMALIZE_WHITESPACE",)), True)
        self.assertEqual(test.names(), {"x": 5})


class Strictly(unittest.TestCase):
    def failed(self, examples, flags=(), names=None, clear=True):
        runner = Runner(PLAY, flags)
        runner.run(made(("one", "1", {})))
        test = Test(examples, names)
        with self.assertRaises((Failed, Unexpected)) as caught:
            runner.run_strictly(test, clear=clear)
        self.assertEqual((runner.counts(), runner.total()), ({"text": (0, 1, 0)}, (0, 1, 0)))
        self.assertEqual(test.examples(), examples)
        error = caught.exception
        told = ("failed", error.number, error.got) if isinstance(error, Failed) else ("unexpected", error.number, error.error)
        return told, test.names()

    def test_runs_that_are_well(self):
        runner = Runner(PLAY)
        test = Test([Example("put x"), Example("fall", options={"SKIP": True}), Example("x", "5")], {"y": 1})
        self.assertEqual(runner.run_strictly(test, clear=False), (0, 3, 1))
        self.assertEqual(test.names(), {"x": 5, "y": 1})
        self.assertEqual(runner.run_strictly(test), (0, 3, 1))
        self.assertEqual(test.names(), {})
        self.assertEqual(runner.run_strictly(Test([], {"x": 1}, "n")), (0, 0, 0))
        self.assertEqual(runner.counts(), {"n": (0, 0, 0), "text": (0, 6, 2)})
        self.assertIs(type(runner.run_strictly(test)), tuple)

    def test_a_failure(self):
        for clear in (True, False):
            examples = [Example("one", "1"), Example("put x"), Example("bare", "2"), Example("drop x"), Example("fall")]
            self.assertEqual(self.failed(examples, names={"y": [1]}, clear=clear), (("failed", 2, "1\n"), {"x": 5, "y": [1]}))
        self.assertEqual(self.failed([Example("nothing", "1")]), (("failed", 0, ""), {}))

    def test_an_error_that_is_not_awaited(self):
        for clear in (True, False):
            self.assertEqual(self.failed([Example("put x"), Example("half", "half"), Example("drop x")], clear=clear), (("unexpected", 1, ("E", "f")), {"x": 1}))
        found = self.failed([Example("no such")])[0]
        self.assertEqual(found, ("unexpected", 0, ("SyntaxError", "invalid syntax")))
        self.assertIs(type(found[2]), tuple)

    def test_another_error_than_the_awaited_one(self):
        found = self.failed([Example("half", "half", error="E: g")])
        self.assertEqual(found, (("failed", 0, "half\n" + ERROR + "E: f\n"), {"x": 1}))
        self.assertEqual(self.failed([Example("fall", error="E")])[0], ("failed", 0, ERROR + "ValueError: bad\n"))

    def test_flags_and_options(self):
        rows = [Example("wide", "a b"), Example("wide", "a b", options={"NORMALIZE_WHITESPACE": False})]
        self.assertEqual(self.failed(rows, ["NORMALIZE_WHITESPACE"])[0], ("failed", 1, "a   b\n"))
        self.assertEqual(self.failed(rows)[0], ("failed", 0, "a   b\n"))
        skip = [Example("fall", options={"SKIP": True})] * 3
        self.assertEqual(self.failed(skip + [Example("one")], [FIRST, "FAIL_FAST"])[0], ("failed", 3, "1\n"))
        fast = [Example("one", "1", options={"FAIL_FAST": True}), Example("one", "2")]
        self.assertEqual(self.failed(fast)[0], ("failed", 1, "1\n"))

    def test_a_run_behind_it(self):
        test = Test([Example("x", "1"), Example("put x"), Example("x", "1")], {"x": 1})
        runner = Runner(PLAY)
        with self.assertRaises(Failed):
            runner.run_strictly(test)
        self.assertEqual(test.names(), {"x": 5})
        with self.assertRaises(Failed) as caught:
            runner.run_strictly(test)
        self.assertEqual((caught.exception.number, caught.exception.got), (0, "5\n"))


if __name__ == "__main__":
    unittest.main()
