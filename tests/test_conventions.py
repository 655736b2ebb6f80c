"""[3], [4] and [6], as far as the modules go that are there: how things are passed and returned."""

import copy
import inspect
import unittest

from helpers import COMPARING, DOTS, OTHERS, SIGNS
from promptyard import checker, errors, finding, judging, outputs, plays, rewriting, running, scripts, texts
from promptyard.errors import BadFlag, BadIndex, BadLength, BadText, NotTaken

FLAGS = COMPARING + OTHERS

NO_FLAGS = [
    None, True, False, 0, 1, "", "ellipsis", "ELLIPSIS ", "+ELLIPSIS", "REPORT_NDIFF",
    ["ELLIPSIS"], ("SKIP",), {}, {"SKIP": 1},
]

SIGNATURES = {
    checker.check: "(want, got, flags=())",
    checker.check_error: "(want, got, flags=())",
    checker.detail_free: "(text)",
    checker.difference_text: "(want, got, flags=())",
    checker.indented: "(text)",
    checker.least_flags: "(want, got)",
    outputs.least_taken: "(want, flags=())",
    outputs.least_refused: "(want, flags=())",
    outputs.parted: "(want, flags, other, other_flags)",
    outputs.is_alike: "(want, flags, other, other_flags)",
    outputs.beyond: "(want, flags, other, other_flags)",
    outputs.shared: "(want, flags, other, other_flags)",
    outputs.least_with: "(taken, refused)",
    outputs.alike_groups: "(pairs)",
    outputs.number_taken: "(want, flags, length)",
    outputs.nth_taken: "(want, flags, index)",
    outputs.index_of: "(want, flags, got)",
    texts.levelled: "(text)",
    texts.parsed: "(text)",
    texts.examples_of: "(text)",
    texts.joined: "(pieces)",
    texts.error_of: "(want)",
    texts.Example: "(source, want='', *, error=None, line=1, indent=0, options=None)",
    texts.Comment: "(source, want='', *, line=1, indent=0)",
    scripts.script_of: "(text)",
    plays.is_play: "(thing)",
    plays.acted: "(play, source, names=None)",
    plays.error_text: "(error)",
    plays.traceback_text: "(error)",
    plays.ended: "(printed)",
    running.Test: "(examples, names=None, name='text', file=None, line=None)",
    running.test_of: "(text, names=None, name='text', file=None, line=None)",
    running.Runner: "(play, flags=())",
    running.succeeds: "(play, test, flags=())",
    finding.is_module: "(thing)",
    finding.find_tests: "(module, *, recurse=True, exclude_empty=True, names=None, more=None)",
    finding.tested: "(module, play, flags=(), *, verbose=False, exclude_empty=False, names=None, more=None)",
    judging.text_parted: "(one, other, flags=())",
    judging.idle_examples: "(text, flags=())",
    rewriting.rewritten: "(text, play, names=None, flags=())",
    rewriting.least_options: "(text, play, names=None, flags=())",
    rewriting.directed: "(text, words)",
}

# The methods that are listed for classes.
METHODS = {
    running.Test: {"examples": "(self)", "names": "(self)", "shown": "(self)"},
    running.Runner: {
        "run": "(self, test, *, verbose=False, clear=True)", "run_strictly": "(self, test, *, clear=True)", "total": "(self)",
        "counts": "(self)", "merge": "(self, other)", "summary": "(self, verbose=False)",
    },
}

# Calls in which one list of flags is to be filled in, and nothing else is wrong.
WITH_FLAGS = [
    lambda flags: checker.check("a\n", "a\n", flags),
    lambda flags: checker.check_error("a\n", "a\n", flags),
    lambda flags: checker.difference_text("a\n", "b\n", flags),
    lambda flags: outputs.least_taken("a\n", flags),
    lambda flags: outputs.least_refused("a\n", flags),
    lambda flags: outputs.parted("a\n", flags, "b\n", []),
    lambda flags: outputs.parted("a\n", [], "b\n", flags),
    lambda flags: outputs.is_alike("a\n", flags, "b\n", []),
    lambda flags: outputs.is_alike("a\n", [], "b\n", flags),
    lambda flags: outputs.beyond("a\n", flags, "b\n", []),
    lambda flags: outputs.beyond("a\n", [], "b\n", flags),
    lambda flags: outputs.shared("a\n", flags, "b\n", []),
    lambda flags: outputs.shared("a\n", [], "b\n", flags),
    lambda flags: outputs.least_with([("a\n", []), ("b\n", flags)], []),
    lambda flags: outputs.least_with([("a\n", [])], [("b\n", []), ("c\n", flags)]),
    lambda flags: outputs.alike_groups([("a\n", flags), ("b\n", [])]),
    lambda flags: outputs.alike_groups([("a\n", []), ("b\n", flags)]),
    lambda flags: outputs.number_taken("a\n", flags, 2),
    lambda flags: outputs.nth_taken("a\n", flags, 0),
    lambda flags: outputs.index_of("a\n", flags, "a\n"),
]

# Likewise such in which other flags than those of comparing matter.
WITH_ALL_FLAGS = [
    lambda flags: running.Runner({}, flags).run(running.test_of(">>> a\n>>> a")),
    lambda flags: running.succeeds({}, running.test_of(">>> a"), flags),
    lambda flags: finding.tested({"name": "m", "doc": ">>> a\n>>> a"}, {}, flags),
    lambda flags: judging.text_parted(">>> a\n1\n", ">>> a\n2\n", flags),
    lambda flags: judging.idle_examples(">>> a\n", flags),
    lambda flags: rewriting.rewritten(">>> a\n", {}, None, flags),
    lambda flags: rewriting.least_options(">>> a\n", {}, None, flags),
]


class Conventions(unittest.TestCase):
    def raised(self, call, kind):
        with self.assertRaises(kind) as caught:
            call()
        return caught.exception

    def test_the_interface_is_defined_where_it_is_listed(self):
        for thing, signature in SIGNATURES.items():
            self.assertEqual(str(inspect.signature(thing)), signature, thing.__name__)
        for place in (checker, outputs, texts, scripts, plays, running, finding, judging, rewriting):
            own = [thing for thing in SIGNATURES if thing.__module__ == place.__name__]
            self.assertTrue(own)
            for thing in own:
                self.assertIs(vars(place)[thing.__name__], thing)
        for kind, methods in METHODS.items():
            for name, signature in methods.items():
                self.assertEqual(str(inspect.signature(vars(kind)[name])), signature, name)

    def test_by_position_and_by_name(self):
        self.assertIs(checker.check(got="a  b\n", flags=["NORMALIZE_WHITESPACE"], want="a b\n"), True)
        self.assertIs(checker.check_error(got="A: 1\n", flags=["IGNORE_EXCEPTION_DETAIL"], want="A: 2\n"), True)
        self.assertEqual(checker.difference_text(got="b\n", want="a\n"), "Expected:\n    a\nGot:\n    b\n")
        self.assertEqual(checker.detail_free(text="a.B: c"), "B")
        self.assertEqual(checker.indented(text="a"), "    a")
        self.assertEqual(checker.least_flags(got="a\n", want="a\n"), [()])
        self.assertEqual(outputs.least_taken(flags=["ELLIPSIS"], want="...b\n"), "b\n")
        self.assertEqual(outputs.least_refused(flags=["ELLIPSIS"], want="...\n"), "")
        names = {"other": "b\n", "other_flags": (), "flags": [], "want": "a\n"}
        self.assertEqual(outputs.parted(**names), "a\n")
        self.assertIs(outputs.is_alike(**names), False)
        self.assertEqual(outputs.beyond(**names), "b\n")
        self.assertIsNone(outputs.shared(**names))
        self.assertEqual(outputs.least_with(refused=[("", [])], taken=[("...", ["ELLIPSIS"])]), "\n")
        self.assertEqual(outputs.alike_groups(pairs=[("a\n", [])]), [[0]])
        self.assertEqual(outputs.number_taken(length=2, flags=[], want="a\n"), 1)
        self.assertEqual(outputs.nth_taken(index=0, flags=[], want="a\n"), "a\n")
        self.assertEqual(outputs.index_of(got="a\n", flags=[], want="a\n"), 0)

    def test_texts_and_plays_by_name(self):
        self.assertEqual(texts.levelled(text=" a"), "a")
        self.assertEqual(texts.parsed(text="a"), ["a"])
        self.assertEqual(texts.examples_of(text=">>> a"), [texts.Example(source="a")])
        self.assertEqual(texts.joined(pieces=[texts.Comment(source="#")]), ">>> #\n")
        self.assertIsNone(texts.error_of(want=""))
        self.assertEqual(scripts.script_of(text="a"), "# a\n")
        self.assertEqual(plays.acted(names=None, source="a", play={"a": []}), ("", None, {}))

    def test_runs_and_modules_by_name(self):
        test = running.Test(line=1, file="f", name="n", names={"x": 1}, examples=[texts.Example("x", "1")])
        runner = running.Runner(flags=["ELLIPSIS"], play={"x\n": [("show", "x")]})
        self.assertEqual(runner.run(clear=False, verbose=False, test=test), ((0, 1, 0), ["success"], ""))
        self.assertEqual(runner.run_strictly(clear=False, test=test), (0, 1, 0))
        self.assertEqual(test.names(), {"x": 1})
        other = running.Runner(play={})
        other.merge(other=runner)
        self.assertEqual((other.total(), other.summary(verbose=False)), ((0, 2, 0), ""))
        self.assertIs(running.succeeds(flags=(), test=test, play={}), False)
        self.assertEqual(running.test_of(text="", names=None, name="n", file="f", line=0).shown(), "<DocTest n from f:0 (no examples)>")
        self.assertIs(finding.is_module(thing={"name": "m"}), True)
        self.assertEqual(len(finding.find_tests(module={"name": "m"}, exclude_empty=False, more={}, names={}, recurse=False)), 1)
        found = finding.tested(more=None, names=None, exclude_empty=True, verbose=True, flags=(), play={}, module={"name": "m"})
        self.assertEqual(found, ((0, 0, 0), "", "0 tests in 0 items.\n0 passed.\nTest passed.\n"))

    def test_lists_and_tuples_in_tests_and_modules(self):
        found = []
        for kind in (list, tuple):
            play = {"a\n": kind([kind(["print", "1\n"]), kind(["set", "x", kind([kind([]), 1])]), kind(["show", "x"])])}
            flags = kind(["ELLIPSIS"])
            names = {"y": kind([kind([2])])}
            test = running.Test(kind([texts.Example("a", "1\n...1]")]), names)
            runner = running.Runner(play, flags)
            module = {"name": "m", "doc": ">>> a\n1\n[[], 1]\n", "names": names}
            before = copy.deepcopy((play, flags, names, module))
            found.append([
                runner.run(test, clear=False), test.names(), running.succeeds(play, test, flags), finding.tested(module, play, flags, more=names),
                finding.find_tests(module)[0].names(), rewriting.rewritten(">>> a\n", play, names, flags),
                rewriting.least_options(">>> a\n1...\n", play, names, kind([])), rewriting.directed(">>> a\n", kind([kind(["+SKIP"])])),
                judging.text_parted(">>> a\n1\n", ">>> a\n1...\n", flags), judging.idle_examples(">>> a", flags),
            ])
            self.assertEqual((play, flags, names, module), before)
        self.assertEqual(repr(found[0]), repr(found[1]))
        self.assertEqual(found[0][:2], [((0, 1, 0), ["success"], ""), {"y": [[2]], "x": [[], 1]}])

    def test_the_kinds_of_what_runs_return(self):
        runner = running.Runner({})
        test = running.test_of(">>> a")
        counts, words, report = runner.run(test)
        self.assertEqual([type(thing) for thing in (counts, *counts, words, report)], [tuple, int, int, int, list, str])
        self.assertEqual([type(thing) for thing in (runner.total(), runner.counts(), runner.summary())], [tuple, dict, str])
        self.assertEqual([type(thing) for thing in (test.examples(), test.names(), test.shown())], [list, dict, str])
        self.assertEqual([runner.merge(runner), type(runner.total()[0])], [None, int])
        self.assertIs(type(rewriting.least_options(">>> a", {})), list)
        self.assertIs(type(judging.idle_examples("")), list)
        self.assertIs(running.succeeds({}, running.Test([])), True)
        self.assertIs(finding.is_module([]), False)

    def test_pieces_in_lists_and_tuples(self):
        pieces = texts.parsed("a\n>>> b # doctest: +SKIP\nc\n>>> # d")
        before = copy.deepcopy(pieces)
        self.assertEqual(texts.joined(pieces), texts.joined(tuple(pieces)))
        self.assertEqual(pieces, before)

    def test_the_kinds_of_what_texts_and_plays_return(self):
        self.assertIs(type(texts.parsed("")), list)
        self.assertIs(type(texts.examples_of("")), list)
        example, comment = texts.parsed(">>> a # doctest: +SKIP\n>>> # b")
        self.assertEqual([type(thing) for thing in vars(example).values()], [str, str, type(None), int, int, dict, str])
        self.assertEqual([type(thing) for thing in vars(comment).values()], [str, str, int, int])
        self.assertIs(plays.is_play({"a": [("show", "b")]}), True)
        self.assertIs(plays.is_play(None), False)
        printed, error, names = plays.acted({"a": [["raise", "A", "b"]]}, "a", {"c": (1,)})
        self.assertEqual([type(thing) for thing in (printed, error, names, names["c"])], [str, tuple, dict, list])

    def test_an_error_of_a_text_changes_nothing(self):
        error = self.raised(lambda: texts.parsed(">>>a"), BadText)
        self.assertIsInstance(error, errors.PromptError)
        options = {"SKIP": True, "?": False}
        self.assertEqual(self.raised(lambda: texts.Example("a", options=options), BadFlag).flag, "?")
        self.assertEqual(options, {"SKIP": True, "?": False})

    def test_lists_and_tuples_are_alike_and_unchanged(self):
        for kind in (list, tuple):
            flags = kind(["NORMALIZE_WHITESPACE", "ELLIPSIS"])
            self.assertIs(checker.check("a ...b", "a  b\n", flags), True)
            pairs = kind([kind(["a...\n", flags]), kind(["a...\n", kind(["ELLIPSIS"])]), kind(["a...", flags])])
            before = copy.deepcopy(pairs)
            self.assertEqual(outputs.alike_groups(pairs), [[0, 2], [1]])
            self.assertEqual(outputs.least_with(pairs, kind([])), "a\n")
            self.assertEqual(outputs.least_with(pairs[:1], pairs[1:2]), "\ta\n")
            self.assertEqual(pairs, before)
            self.assertEqual(flags, kind(["NORMALIZE_WHITESPACE", "ELLIPSIS"]))

    def test_a_list_that_is_returned_is_a_new_one(self):
        groups = outputs.alike_groups([("a\n", []), ("a\n", [])])
        groups[0].append(7)
        groups.append([8])
        self.assertEqual(outputs.alike_groups([("a\n", []), ("a\n", [])]), [[0, 1]])
        sets = checker.least_flags("a b\n", "a  b\n")
        sets.append(())
        self.assertEqual(checker.least_flags("a b\n", "a  b\n"), [("NORMALIZE_WHITESPACE",)])

    def test_the_kinds_of_what_is_returned(self):
        self.assertIs(type(outputs.alike_groups((("a\n", ()),))), list)
        self.assertIs(type(outputs.alike_groups((("a\n", ()),))[0]), list)
        self.assertIs(type(checker.least_flags("a", "a")), list)
        self.assertIs(type(checker.least_flags("a", "a")[0]), tuple)
        self.assertIs(type(outputs.number_taken("a\n", [], 2)), int)
        self.assertIs(type(outputs.number_taken("", [], 0)), int)
        self.assertIs(type(outputs.index_of("a\n", [], "a\n")), int)
        self.assertIs(outputs.is_alike("a\n", [], "a\n", []), True)
        for want in ("a\n", "a...\n", "1\n", ""):
            for got in ("a\n", "ab\n", "True\n", "", "b"):
                for flags in ([], ["ELLIPSIS"], ["NORMALIZE_WHITESPACE"], list(FLAGS)):
                    self.assertIn(repr(checker.check(want, got, flags)), ("True", "False"))
                    self.assertIn(repr(checker.check_error(want, got, flags)), ("True", "False"))

    def test_all_eight_flags_are_some_in_any_order_and_twice(self):
        for call in WITH_FLAGS:
            usual = [call([flag]) for flag in FLAGS]
            self.assertEqual([call((flag, flag)) for flag in FLAGS], usual)
            self.assertEqual(call(list(FLAGS)), call(FLAGS[::-1] + FLAGS))

    def test_flags_that_are_not_of_comparing_change_no_comparison(self):
        for want, got in (("a\n", "a\n"), ("a\n", "b\n"), ("1\n", "True\n"), ("\n", " \n"), ("a: b", "a: c")):
            self.assertIs(checker.check(want, got, OTHERS), checker.check(want, got))
        for call in WITH_FLAGS:
            self.assertEqual(call(OTHERS), call(()))

    def test_all_eight_flags_where_each_of_them_may_matter(self):
        for call in WITH_ALL_FLAGS:
            self.assertEqual([call((flag, flag)) for flag in FLAGS], [call([flag]) for flag in FLAGS])
            self.assertEqual(call(list(FLAGS)), call(FLAGS[::-1] + FLAGS))

    def test_the_first_thing_that_is_no_flag(self):
        for call in WITH_FLAGS + WITH_ALL_FLAGS:
            for wrong in NO_FLAGS:
                held = errors.BadFlag(wrong).flag
                for flags in ([wrong], (wrong, "?"), list(FLAGS) + [wrong, 5], ["SKIP", wrong, "SKIP", [1]]):
                    found = self.raised(lambda: call(flags), BadFlag).flag
                    self.assertEqual(repr(found), repr(held))

    def test_a_list_that_is_no_flag_is_held_as_a_tuple(self):
        self.assertEqual(self.raised(lambda: checker.check("", "", [["SKIP", [1]]]), BadFlag).flag, ("SKIP", (1,)))

    def test_flags_come_ahead_of_other_errors(self):
        self.assertEqual(self.raised(lambda: outputs.number_taken("a\n", ["?"], -1), BadFlag).flag, "?")
        self.assertEqual(self.raised(lambda: outputs.nth_taken("a\n", ["?"], None), BadFlag).flag, "?")
        self.assertEqual(self.raised(lambda: outputs.index_of("a\n", ["?"], "b"), BadFlag).flag, "?")

    def test_of_several_lists_the_first_is_looked_at_first(self):
        for call in (outputs.parted, outputs.is_alike, outputs.beyond, outputs.shared):
            self.assertEqual(self.raised(lambda: call("a", ["SKIP", 1], "b", [2]), BadFlag).flag, 1)
            self.assertEqual(self.raised(lambda: call("a", ["SKIP"], "b", [2]), BadFlag).flag, 2)
            found = self.raised(lambda: call(other_flags=[2], other="", want="", flags=[1]), BadFlag)
            self.assertEqual(found.flag, 1)
        pairs = [("a", ["SKIP"]), ("b", [1]), ("c", [2])]
        self.assertEqual(self.raised(lambda: outputs.alike_groups(pairs), BadFlag).flag, 1)
        self.assertEqual(self.raised(lambda: outputs.least_with(pairs, [("", [0])]), BadFlag).flag, 1)
        self.assertEqual(self.raised(lambda: outputs.least_with([("", ["SKIP"])], pairs), BadFlag).flag, 1)

    def test_true_and_false_are_no_integers(self):
        for wrong in (True, False):
            self.assertIs(self.raised(lambda: outputs.number_taken("...", DOTS, wrong), BadLength).length, wrong)
            self.assertIs(self.raised(lambda: outputs.nth_taken("...", DOTS, wrong), BadIndex).index, wrong)

    def test_errors_change_nothing(self):
        flags = ["SKIP", "?"]
        pairs = [["a", flags]]
        self.raised(lambda: outputs.alike_groups(pairs), BadFlag)
        self.assertEqual(pairs, [["a", ["SKIP", "?"]]])
        self.raised(lambda: outputs.index_of("a", [], "b"), NotTaken)

    def test_the_signs_of_outputs(self):
        self.assertEqual(len(SIGNS), 96)
        found = [outputs.nth_taken("...\n", DOTS + ["DONT_ACCEPT_BLANKLINE"], index) for index in range(97)]
        self.assertEqual(found, ["\n"] + [sign + "\n" for sign in SIGNS])


if __name__ == "__main__":
    unittest.main()
