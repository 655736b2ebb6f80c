"""[41], [43] and [44]: rewritten texts, least options, and directives that are put in."""

import copy
import unittest

from promptyard.errors import BadFlag, BadNames, BadOptions, BadOutput, BadPlay, BadText
from promptyard.rewriting import directed, least_options, rewritten
from promptyard.running import Runner, test_of

ERROR = "Traceback (most recent call last):\n    ...\n"

SPACES, DOTS = ["NORMALIZE_WHITESPACE"], ["ELLIPSIS"]

PLAY = {
    "one\n": [("print", "1\n")],
    "nothing\n": [],
    "many\n": [("print", "a\n b\nc")],
    "blank\n": [("print", "a\n\n \t\nb\n")],
    "fall\n": [("print", "ahead\n"), ("raise", "E", "bad")],
    "put x\n": [("set", "x", 5)],
    "x\n": [("show", "x")],
    "drop x\n": [("delete", "x")],
    "for a in b:\n    one\n": [("print", "1\n1\n")],
}

NO_PLAYS = [None, True, 0, "", [], (), {"a": None}, {1: []}, {"a": [("print", 1)]}, {"a": ["print"]}]

NO_NAMES = [True, 0, "", "x", [], (), {"x": {}}, {"1": 1}, {1: 1}, {"x": [{}]}, {"a.b": None}, [("x", 1)]]


def printing(text):
    """A play in which the source a prints a text, and the source b prints 1."""
    return {"a\n": [("print", text)], "b\n": [("print", "1\n")]}


def falling(kind, text):
    """A play in which the source a raises an error."""
    return {"a\n": [("raise", kind, text)]}


class Rewritten(unittest.TestCase):
    def stays(self, text, **more):
        self.assertEqual(rewritten(text, PLAY, **more), text)

    def becomes(self, text, found, **more):
        self.assertEqual(rewritten(text, PLAY, **more), found)
        self.assertEqual(rewritten(found, PLAY, **more), found)
        runner = Runner(PLAY, more.get("flags", ()))
        self.assertEqual(runner.run(test_of(found, more.get("names")))[0][0], 0)

    def test_texts_whose_examples_pass_stay(self):
        for text in (
            "", "\n", "a", " \ta\t\n\n b", ">>> one\n1\n", ">>> one\n1", "\t>>> one \n\t1\n\n", "a\n>>> one\n1\n>>> nothing\n>>> nothing",
            "  >>> many\n  a\n   b\n  c\n\nd", ">>> blank\na\n<BLANKLINE> \n<BLANKLINE>\nb", f">>> fall\n{ERROR}E: bad",
            ">>> # 1\n2\n>>> # 2", ">>> one # doctest: +ELLIPSIS \n...1\n".replace("\n...1", "\n1"),
        ):
            self.stays(text)

    def test_expected_lines_are_put_in_and_out(self):
        self.becomes(">>> one\n", ">>> one\n1\n")
        self.becomes(">>> one\n2\n", ">>> one\n1\n")
        self.becomes(">>> one\n2\n3\n\n4\n", ">>> one\n1\n\n4\n")
        self.becomes(">>> nothing\n2\n3\n", ">>> nothing\n")
        self.becomes(">>> nothing\n2\n\nb", ">>> nothing\n\nb")
        self.becomes(">>> many\na\nb\nc\n", ">>> many\na\n b\nc\n")

    def test_line_feeds(self):
        self.becomes(">>> one", ">>> one\n1\n")
        self.becomes(">>> one\n2", ">>> one\n1\n")
        self.becomes(">>> nothing\n2", ">>> nothing\n")
        self.becomes("a\n>>> for a in b:\n...     one", "a\n>>> for a in b:\n...     one\n1\n1\n")
        self.becomes("a\n>>> one\n2\n\nb", "a\n>>> one\n1\n\nb")

    def test_blank_lines(self):
        self.becomes("  >>> blank\n", "  >>> blank\n  a\n  <BLANKLINE>\n  <BLANKLINE>\n  b\n")

    def test_errors(self):
        self.becomes(">>> fall\nbad\n", f">>> fall\n{ERROR}E: bad\n")
        self.becomes(f">>> fall\n{ERROR}E: good\n\n", f">>> fall\n{ERROR}E: bad\n\n")
        self.becomes("  >>> x\n", "  >>> x\n  Traceback (most recent call last):\n      ...\n  NameError: name 'x' is not defined\n")
        self.becomes(">>> other", f">>> other\n{ERROR}SyntaxError: invalid syntax\n")
        found = rewritten(">>> a", falling("E.f", "b\n\n c\n"))
        self.assertEqual(found, f">>> a\n{ERROR}E.f: b\n<BLANKLINE>\n c\n<BLANKLINE>\n")
        self.assertEqual(rewritten(">>> a", falling("E", "")), f">>> a\n{ERROR}E\n")
        # What was got ahead of an error is not written, and matters for none that is awaited.
        self.stays(f">>> fall\n{ERROR}  x\nE: bad\n")

    def test_indents(self):
        self.becomes("a\n    >>> many\n    1\n\n  >>> one\n", "a\n    >>> many\n    a\n     b\n    c\n\n  >>> one\n  1\n")
        self.becomes("    >>> one\n", "    >>> one\n    1\n")
        self.becomes("\t>>> one\n\t2\n", "\t>>> one\n        1\n")
        self.becomes("a\n \t >>> one\n", "a\n \t >>> one\n         1\n")
        self.becomes("   \t>>> one\n\ta\n", "   \t>>> one\n        1\n")
        self.becomes(">>> for a in b: \t# doctest: +SKIP,-SKIP\n...\tone\n".replace("...\tone", "...     one"),
                     ">>> for a in b: \t# doctest: +SKIP,-SKIP\n...     one\n1\n1\n")

    def test_nothing_else_is_changed(self):
        text = " \t\n a\tb \n\n  \t>>> one\t# doctest:\t-SKIP\n\t2\n\t3\n \t \n\t>>> # c\n\td\n\t>>> put x\t \n\t>>> x\n\t5\nq\t"
        with self.assertRaises(BadText):
            rewritten(text, PLAY)
        text = text.replace("\nq\t", "\n \t\nq\t")
        self.becomes(text, text.replace("\t2\n\t3\n", "        1\n"))

    def test_skipped_ones_stay(self):
        self.stays(">>> one # doctest: +SKIP\n2\n")
        self.stays(">>> one\n2\n>>> fall\n", flags=["SKIP"])
        self.becomes(">>> put x # doctest: +SKIP\n2\n>>> one # doctest: -SKIP\n>>> x\n", ">>> put x # doctest: +SKIP\n2\n>>> one # doctest: -SKIP\n1\n>>> x\n", flags=["SKIP"])

    def test_names(self):
        self.stays(">>> x\n5\n", names={"x": 5})
        self.becomes(">>> x\n>>> put x\n>>> x\n", ">>> x\n[6]\n>>> put x\n>>> x\n5\n", names={"x": (6,)})
        names = {"x": [1]}
        rewritten(">>> put x\n>>> drop x\n", PLAY, names)
        self.assertEqual(names, {"x": [1]})

    def test_flags(self):
        self.stays(">>> many\na b c\n", flags=SPACES)
        self.stays(">>> many\na...c\n", flags=DOTS)
        self.becomes(">>> many # doctest: -ELLIPSIS\na...c\n", ">>> many # doctest: -ELLIPSIS\na\n b\nc\n", flags=DOTS)
        self.stays(f">>> fall\n{ERROR}f.E: good\n", flags=["IGNORE_EXCEPTION_DETAIL"])

    def test_fail_fast_counts_for_nothing(self):
        text = ">>> one\n2\n>>> many\n>>> nothing # doctest: +FAIL_FAST\n3\n>>> one\n"
        found = ">>> one\n1\n>>> many\na\n b\nc\n>>> nothing # doctest: +FAIL_FAST\n>>> one\n1\n"
        self.becomes(text, found)
        self.becomes(text, found, flags=["FAIL_FAST"])
        self.becomes(text, found, flags=["REPORT_ONLY_FIRST_FAILURE", "FAIL_FAST"])

    def test_nothing_that_is_passed_is_changed(self):
        play = copy.deepcopy(PLAY)
        flags = ["ELLIPSIS"]
        names = {"x": [1]}
        rewritten(">>> put x\n>>> x\n1\n>>> fall\n", play, names, flags)
        least_options(">>> put x\n>>> x\n1\n>>> fall\n", play, names, flags)
        self.assertEqual((play, names, flags), (PLAY, {"x": [1]}, ["ELLIPSIS"]))

    def test_by_position_and_by_name(self):
        self.assertEqual(rewritten(flags=SPACES, names={"x": 1}, play=PLAY, text=">>> x\n2"), ">>> x\n1\n")
        self.assertEqual(rewritten(">>> x\n2", PLAY, {"x": 1}, tuple(SPACES)), ">>> x\n1\n")
        self.assertEqual(least_options(flags=(), names={"x": [1]}, play=PLAY, text=">>> x\n[ 1]"), [None])
        self.assertEqual(least_options(">>> x\n[ 1]", PLAY, {"x": [1, 2]}, ("ELLIPSIS",)), [None])
        self.assertEqual(directed(words=[["+SKIP"]], text=">>> x"), ">>> x  # doctest: +SKIP")


class BadOutputs(unittest.TestCase):
    def refused(self, text, play, index=0, flags=()):
        with self.assertRaises(BadOutput, msg=(text, play)) as caught:
            rewritten(text, play, None, flags)
        self.assertEqual(caught.exception.index, index)

    def test_tabs(self):
        for output in ("\ta\n", "a\tb\n", "a\n\tb\n", "a\t\n", "a\nb\t"):
            self.refused(">>> a\n", printing(output))
            self.refused("  >>> a\n  b\n", printing(output), flags=DOTS)
            found = rewritten("  >>> a\n", printing(output), None, SPACES)
            self.assertEqual(found, "  >>> a\n" + "".join(f"  {line}\n" for line in output.split("\n") if line))
        self.assertEqual(rewritten(">>> a\n", printing("a\n\t\n")), ">>> a\na\n<BLANKLINE>\n")
        # Blanks at the end that no tab stands in are written as they are.
        self.assertEqual(rewritten(">>> a\n", printing(" a  \n")), ">>> a\n a  \n")

    def test_prompts(self):
        for output in (">>> b\n", "a\n>>> b", "a\n  >>> b\n", "\t>>>\n", "a\n>>>b\n", ">>>\n", "a\n>>> b\n1\n", ">>> b # doctest: +x\n"):
            for flags in ((), SPACES, DOTS, ["DONT_ACCEPT_BLANKLINE"]):
                self.refused(">>> a\n", printing(output), flags=flags)
        self.assertEqual(rewritten(">>> a", printing("a >>> b\n>> c\n")), ">>> a\na >>> b\n>> c\n")

    def test_points(self):
        for output in ("...\n", "... a", "  ... a\n", "\t...\n", "...a\n", "...\na\n", "... # doctest: +x\n"):
            for flags in ((), SPACES, DOTS):
                self.refused(">>> a\n", printing(output), flags=flags)
        self.assertEqual(rewritten(">>> a", printing("a\n... b\n...\n")), ">>> a\na\n... b\n...\n")
        self.assertEqual(rewritten(">>> a", printing("..\n")), ">>> a\n..\n")
        self.assertEqual(rewritten(">>> a", printing(" \n...\n")), ">>> a\n<BLANKLINE>\n...\n")

    def test_blank_lines(self):
        for flags in (["DONT_ACCEPT_BLANKLINE"], ["DONT_ACCEPT_BLANKLINE", "ELLIPSIS", "NORMALIZE_WHITESPACE"]):
            for output in ("\n", "a\n\nb\n", " \n", "a\n \t"):
                self.refused(">>> a\nx\n", printing(output), flags=flags)
                self.assertIn("<BLANKLINE>", rewritten(">>> a # doctest: -DONT_ACCEPT_BLANKLINE\nx\n", printing(output), None, flags))
        # A line that looks like the mark is not taken for itself.
        for output in ("<BLANKLINE>\n\n", "a\n\n<BLANKLINE>  \nb"):
            self.refused(">>> a\n", printing(output))
        for output in ("<BLANKLINE>\n", "a\n<BLANKLINE>\n", "<BLANKLINE>  "):
            self.assertEqual(rewritten(">>> a\n", printing(output)), f">>> a\n{output.removesuffix(chr(10))}\n")
        self.assertEqual(rewritten(">>> a\n", printing("<BLANKLINE> a\n\n")), ">>> a\n<BLANKLINE> a\n<BLANKLINE>\n")

    def test_errors(self):
        for text in ("a\tb", "a\n>>> b", "a\n<BLANKLINE>\n\n"):
            self.refused(">>> a\n", falling("E", text))
            self.refused(">>> a\n", falling("E", text), flags=DOTS)
        self.assertEqual(rewritten(">>> a\n", falling("E", "\ta\tb"), None, ["IGNORE_EXCEPTION_DETAIL"]), f">>> a\n{ERROR}E: \ta\tb\n")
        self.assertEqual(rewritten(">>> a\n", falling("E", "\ta\tb"), None, SPACES), f">>> a\n{ERROR}E: \ta\tb\n")
        self.refused(">>> a\n", falling("E", "a\n>>> b"), flags=["IGNORE_EXCEPTION_DETAIL"])
        self.refused(">>> a\n", falling("E", "a\n\n"), flags=["DONT_ACCEPT_BLANKLINE"])
        # The points of the traceback and those of a text behind it do no harm.
        self.assertEqual(rewritten(">>> a\n", falling("E", "\n...")), f">>> a\n{ERROR}E: \n...\n")

    def test_an_output_that_looks_like_a_traceback(self):
        for output in (ERROR + "E: a\n", "Traceback (innermost last):\na\n"):
            self.assertEqual(rewritten(">>> a\n", printing(output)), f">>> a\n{output}")

    def test_the_index_of_the_first_one(self):
        text = ">>> b\n>>> # c\n>>> a # doctest: +SKIP\n>>> b\n1\n>>> a\n>>> a\n"
        self.refused(text, printing(">>>"), 3)
        self.refused(text, printing("..."), 3)
        self.refused(text, printing("\n\n"), 3, ["DONT_ACCEPT_BLANKLINE"])
        self.refused(">>> b\n>>> a\n", {**printing(">>>"), "b\n": [("print", "\t1")]}, 0)

    def test_one_behind_stands_as_it_is(self):
        self.assertEqual(rewritten(">>> b\n>>> a\nx", printing("y\n")), ">>> b\n1\n>>> a\ny\n")
        self.assertEqual(rewritten(">>> b\n\n\n>>> a # doctest: +ELLIPSIS\n y ... \n", printing("y\n")), ">>> b\n1\n\n\n>>> a # doctest: +ELLIPSIS\ny\n")

    def test_errors_in_their_order(self):
        for call in (rewritten, least_options):
            for play in NO_PLAYS:
                with self.assertRaises(BadText):
                    call(">>>a", play, 5, ["?"])
                with self.assertRaises(BadPlay, msg=play):
                    call(">>> a", play, 5, ["?"])
            for names in NO_NAMES:
                with self.assertRaises(BadNames, msg=names):
                    call(">>> a", {}, names, ["?"])
            with self.assertRaises(BadFlag) as caught:
                call(">>> a", printing(">>>"), {}, ["SKIP", ["?"], 5])
            self.assertEqual(caught.exception.flag, ("?",))
            with self.assertRaises(BadText) as caught:
                call(">>> a # doctest: +x", {})
            self.assertEqual((caught.exception.line, caught.exception.reason, caught.exception.found), (1, "option", "+x"))


class LeastOptions(unittest.TestCase):
    def least(self, want, output, *found, flags=(), options=""):
        source = f">>> a # doctest: {options}\n" if options else ">>> a\n"
        self.assertEqual(least_options(source + want, printing(output), None, flags), [*found])

    def test_no_examples(self):
        self.assertEqual(least_options("", {}), [])
        self.assertEqual(least_options("a\n>>> # b\nc", {}), [])

    def test_those_that_pass_or_are_skipped(self):
        text = ">>> one\n1\n>>> fall # doctest: +SKIP\n>>> nothing\n>>> many # doctest: +ELLIPSIS\na...c\n"
        found = least_options(text, PLAY)
        self.assertEqual(found, [()] * 4)
        self.assertEqual([type(found)] + [type(thing) for thing in found], [list] + [tuple] * 4)
        self.assertEqual(least_options(">>> one\n2\n>>> other", PLAY, None, ["SKIP"]), [(), ()])

    def test_one_word(self):
        self.least("a...\n", "abc\n", ("+ELLIPSIS",))
        self.least("a b\n", "a  b\n", ("+NORMALIZE_WHITESPACE",))
        self.least("<BLANKLINE>\n\n", "<BLANKLINE>\n", (), flags=["DONT_ACCEPT_BLANKLINE"])
        self.least("a\n<BLANKLINE>\n", "a\n\n", ("-DONT_ACCEPT_BLANKLINE",), flags=["DONT_ACCEPT_BLANKLINE"])
        self.least("1\n", "True\n", ("-DONT_ACCEPT_TRUE_FOR_1",), flags=["DONT_ACCEPT_TRUE_FOR_1", "ELLIPSIS"])
        self.least("a...\n", "abc\n", ("+ELLIPSIS",), flags=["ELLIPSIS"], options="-ELLIPSIS")
        self.least("a...\n", "abc\n", (), options="-ELLIPSIS +ELLIPSIS")
        # Both are normalized first, and then no space is left at the end.
        self.least("a ...\n", "a \n", ("-NORMALIZE_WHITESPACE",), flags=["NORMALIZE_WHITESPACE", "ELLIPSIS"])

    def test_several_words(self):
        self.least("a b...\n", "a  bc\n", ("+ELLIPSIS", "+NORMALIZE_WHITESPACE"))
        self.least("a b...\n<BLANKLINE>\n", "a  bc\n\n", ("+ELLIPSIS", "+NORMALIZE_WHITESPACE", "-DONT_ACCEPT_BLANKLINE"), flags=["DONT_ACCEPT_BLANKLINE"])
        # Of equally many the one that is less counts: a plus is less than a minus.
        self.least("a ...\n", "a ... \n", ("+ELLIPSIS",))
        self.least("<BLANKLINE>\n...\n", "\n ...\n", ("+ELLIPSIS", "-DONT_ACCEPT_BLANKLINE"), flags=["DONT_ACCEPT_BLANKLINE"])
        self.least("<BLANKLINE>\na ...\n", "\na \n", ("-DONT_ACCEPT_BLANKLINE", "-NORMALIZE_WHITESPACE"), flags=["NORMALIZE_WHITESPACE", "ELLIPSIS", "DONT_ACCEPT_BLANKLINE"])

    def test_none(self):
        self.least("a\n", "b\n", None)
        self.least("a\n", "b\n", None, flags=["ELLIPSIS", "NORMALIZE_WHITESPACE"])
        self.least("", "b\n", None)
        self.assertEqual(least_options(">>> fall\nbad\n", PLAY), [None])

    def test_errors(self):
        play = falling("f.E", "b  c")
        for want, flags, found in (
            ("f.E: b  c", [], ()), ("f.E: b c", [], ("+IGNORE_EXCEPTION_DETAIL",)), ("E", [], ("+IGNORE_EXCEPTION_DETAIL",)),
            ("f.E: b c", ["IGNORE_EXCEPTION_DETAIL"], ()), ("g.E: ...", [], ("+IGNORE_EXCEPTION_DETAIL",)), ("f.E: ...", [], ("+ELLIPSIS",)),
            ("F: b  c", [], None), ("f...: b c", [], ("+ELLIPSIS", "+NORMALIZE_WHITESPACE")), ("f...: d", [], None),
            ("g.E : d", [], ("+IGNORE_EXCEPTION_DETAIL", "+NORMALIZE_WHITESPACE")), ("g.E : d", SPACES, ("+IGNORE_EXCEPTION_DETAIL",)),
        ):
            self.assertEqual(least_options(f">>> a\n{ERROR}{want}\n", play, None, flags), [found])

    def test_ellipsis_or_detail(self):
        # The plus words stand in the order of Python: ELLIPSIS ahead of IGNORE_EXCEPTION_DETAIL.
        self.assertEqual(least_options(f">>> a\n{ERROR}E: ...\n", falling("E", "b")), [("+ELLIPSIS",)])

    def test_they_are_run_one_after_another_as_they_stand(self):
        text = ">>> x\n>>> put x\n>>> x # doctest: +FAIL_FAST\n6\n>>> x\n5\n>>> drop x\n>>> x\n...5\n".replace("...5", " 5")
        self.assertEqual(least_options(text, PLAY, None, ["FAIL_FAST"]), [None, (), None, (), (), None])
        self.assertEqual(least_options(text, PLAY, {"x": 1}), [None, (), None, (), (), None])
        self.assertEqual(least_options(">>> x\n ' a'\n>>> put x\n>>> x\n 5\n", PLAY, {"x": " a"}), [("+NORMALIZE_WHITESPACE",), (), ("+NORMALIZE_WHITESPACE",)])


class Directed(unittest.TestCase):
    def test_no_words(self):
        for text in ("", "a\n\t b", ">>> a", " \t>>> a  \n\t b\t\n\n>>> # c\n>>> d"):
            many = text.count(">>>") - text.count("#")
            for words in ([None] * many, [()] * many, ([],) * many):
                self.assertEqual(directed(text, words), text)

    def test_words_are_put_at_the_end_of_the_last_source_line(self):
        self.assertEqual(directed(">>> a\n1\n", [["+SKIP"]]), ">>> a  # doctest: +SKIP\n1\n")
        self.assertEqual(directed(">>> a", (("+SKIP", "-ELLIPSIS"),)), ">>> a  # doctest: +SKIP, -ELLIPSIS")
        self.assertEqual(directed(">>> a\n... b\n1", [["-FAIL_FAST"]]), ">>> a\n... b  # doctest: -FAIL_FAST\n1")
        self.assertEqual(directed(">>> a\n...\n1", [["-FAIL_FAST"]]), ">>> a\n...  # doctest: -FAIL_FAST\n1")
        self.assertEqual(directed(">>> a \t\n", [["+SKIP"]]), ">>> a \t  # doctest: +SKIP\n")
        self.assertEqual(directed(">>> '# doctest: a'", [["+SKIP"]]), ">>> '# doctest: a'  # doctest: +SKIP")
        self.assertEqual(directed(">>> a # b", [["+SKIP"]]), ">>> a # b  # doctest: +SKIP")

    def test_behind_a_directive(self):
        self.assertEqual(directed(">>> a #doctest:-SKIP\n1\n", [["+SKIP", "+SKIP"]]), ">>> a #doctest:-SKIP, +SKIP, +SKIP\n1\n")
        self.assertEqual(directed(">>> a\t#\tdoctest:\t", [["+SKIP"]]), ">>> a\t#\tdoctest:\t, +SKIP")
        self.assertEqual(directed(">>> 'a' # doctest: +ELLIPSIS\n... b\n", [["+SKIP"]]), ">>> 'a' # doctest: +ELLIPSIS\n... b  # doctest: +SKIP\n")
        self.assertEqual(directed(">>> a\n... # doctest: +ELLIPSIS", [["+SKIP"]]), ">>> a\n... # doctest: +ELLIPSIS, +SKIP")

    def test_nothing_else_is_changed(self):
        text = "\ta \t\n  \n\t>>> b\n\t  \t\n\t>>> # c\n\td\n \t>>> e # doctest: +SKIP\n\t... \n\t f\n\t>>> g\n\n \t"
        found = directed(text, [["+SKIP"], ["-SKIP"], None])
        self.assertEqual(found, text.replace(">>> b", ">>> b  # doctest: +SKIP").replace("\t... ", "\t...   # doctest: -SKIP"))
        self.assertEqual(directed(text, [None, [], ["+ELLIPSIS"]]), text.replace(">>> g", ">>> g  # doctest: +ELLIPSIS"))

    def test_comments_have_no_words(self):
        self.assertEqual(directed(">>> # a\n>>> b\n>>> # c\n>>> d", [["+SKIP"], ["-SKIP"]]), ">>> # a\n>>> b  # doctest: +SKIP\n>>> # c\n>>> d  # doctest: -SKIP")

    def refused(self, text, words, index):
        before = copy.deepcopy(words)
        with self.assertRaises(BadOptions, msg=words) as caught:
            directed(text, words)
        self.assertEqual(caught.exception.index, index)
        self.assertEqual(words, before)

    def test_things_that_are_no_words(self):
        for thing in (
            True, False, 0, 1, "", "+SKIP", {}, {"+SKIP": True}, ["SKIP"], ["+"], [""], ["+skip"], ["+SKIP "], [" +SKIP"], ["++SKIP"], ["*SKIP"],
            [None], [["+SKIP"]], [("+", "SKIP")], ["+SKIP", 5], ["+SKIP", "-REPORT_NDIFF"], [True], [{}], ["+SKIP,-ELLIPSIS"], [{"+SKIP": 1}], [["+", "SKIP"]],
        ):
            self.refused(">>> a\n", [thing], 0)
            self.refused(">>> a\n>>> b\n>>> c", [["+SKIP"], thing, 5], 1)
            self.refused(">>> a\n>>> b\n>>> c", (None, (), thing), 2)
            self.refused(">>> a\n", [thing, thing], 0)

    def test_too_many_and_too_few(self):
        self.refused("", [None], 0)
        self.refused("", (5,), 0)
        self.refused(">>> # a\n", [["+SKIP"]], 0)
        self.refused(">>> a\n", [], 0)
        self.refused(">>> a\n", [["+SKIP"], None, 5], 1)
        self.refused(">>> a\n>>> b\n", [["+SKIP"]], 1)
        self.refused(">>> a\n>>> b\n>>> c\n", [None], 1)
        self.refused(">>> a\n>>> b\n", [None, 5, None], 1)
        self.refused(">>> a\n>>> b\n>>> c\n", [None, 5], 1)

    def test_texts_come_first(self):
        with self.assertRaises(BadText):
            directed(">>>a", [5, 6])


if __name__ == "__main__":
    unittest.main()
