"""[45]: two texts parted by an output, and examples that no output lets fail."""

import unittest

from promptyard.errors import BadFlag, BadSources, BadText
from promptyard.judging import idle_examples, text_parted

DOTS, SPACES = ["ELLIPSIS"], ["NORMALIZE_WHITESPACE"]


def text_of(*wants):
    """A text with an example for each want, whose sources are a, b and so on."""
    return "\n".join(f">>> {source}\n{want}" for source, want in zip("abcdefgh", wants))


class TextParted(unittest.TestCase):
    def parted(self, one, other, found, flags=()):
        self.assertEqual(text_parted(one, other, flags), found)
        self.assertEqual(text_parted(other, one, flags), found)
        if found is not None:
            self.assertIs(type(text_parted(one, other, flags)), tuple)

    def test_texts_without_examples(self):
        for one in ("", "a", "\t\n>>> # a\nb"):
            for other in ("", "b\n\n", ">>> # c"):
                self.parted(one, other, None)

    def test_texts_with_the_same_wants(self):
        for text in ("\n>>> a\n1\n", text_of("1", "", "..x", "<BLANKLINE>")):
            self.parted(text, text, None)
            self.parted(text, "a\n" + text + "\n>>> # d\n", None, DOTS)
            self.parted(text, "\t" + text.replace("\n", "\n\t"), None)

    def test_the_first_example_and_the_least_output(self):
        self.parted(text_of("1", "2", "3"), text_of("1", "5", "4"), (1, "2\n"))
        self.parted(text_of("1", "10", "3"), text_of("1", "9", "4"), (1, "9\n"))
        self.parted(text_of("1"), text_of("0"), (0, "0\n"))
        self.parted(text_of(""), text_of("a"), (0, ""))
        self.parted(text_of("", "b"), text_of("a", "b"), (0, ""))
        self.parted(text_of("a", "b", "c", "d"), text_of("a", "b", "c", "e"), (3, "d\n"))

    def test_flags_of_the_runner(self):
        one, other = text_of("a b"), text_of("a  b")
        self.parted(one, other, (0, "a b\n"))
        self.parted(one, other, None, SPACES)
        self.parted(text_of("a..."), text_of("a......"), None, tuple(DOTS))
        self.parted(text_of("a..."), text_of("a......"), (0, "a...\n"))
        self.parted(text_of("<BLANKLINE>"), text_of("<BLANKLINE> "), (0, "<BLANKLINE>\n"))
        self.parted(text_of("<BLANKLINE>"), text_of("<BLANKLINE> "), None, SPACES + ["DONT_ACCEPT_BLANKLINE"])
        self.parted(text_of("<BLANKLINE>"), text_of("<BLANKLINE> "), (0, "<BLANKLINE>\n"), ["DONT_ACCEPT_BLANKLINE"])

    def test_options(self):
        one = ">>> a # doctest: +NORMALIZE_WHITESPACE\na b\n"
        self.parted(one, ">>> a # doctest: +NORMALIZE_WHITESPACE\na  b\n", None)
        self.parted(one, ">>> a\na b\n", (0, "a\tb\n"))
        self.parted(one, ">>> a\na b\n", None, SPACES)
        self.parted(">>> a # doctest: -ELLIPSIS\na...\n", ">>> a\na...\n", (0, "a\n"), DOTS)
        self.parted(">>> a # doctest: -ELLIPSIS\na...\n", ">>> a\na...\n", None)
        # Flags that are not of comparing change nothing here.
        self.parted(">>> a # doctest: +FAIL_FAST +IGNORE_EXCEPTION_DETAIL\na\n", ">>> a\na\n", None, ["REPORT_ONLY_FIRST_FAILURE"])

    def test_skipped_ones(self):
        skipped = ">>> a # doctest: +SKIP\n1\n"
        self.parted(skipped, ">>> a # doctest: +SKIP\n2\n", None)
        self.parted(skipped, ">>> a\n1\n", (0, ""))
        self.parted(skipped, ">>> a\n\n", (0, "\n"))
        self.parted(skipped, ">>> a # doctest: -SKIP\n2\n", (0, ""), ["SKIP"])
        self.parted(text_of("1"), text_of("2"), None, ["SKIP"])
        # An example that takes all outputs is like one that is skipped.
        self.parted(skipped + ">>> b\n2\n", ">>> a\n<BLANKLINE>\n...\n>>> b\n3\n", (0, ""), DOTS)
        self.parted(skipped + ">>> b\n2\n", ">>> a\n<BLANKLINE>\n...\n>>> b\n3\n", (1, "2\n"), DOTS + SPACES)
        self.parted(skipped, ">>> a # doctest: +NORMALIZE_WHITESPACE\n<BLANKLINE>\n...\n", None, DOTS)

    def test_errors_are_not_looked_at(self):
        trace = "Traceback (most recent call last):\n"
        self.parted(f">>> a\n{trace}E: b\n", f">>> a\n{trace} x\nE: b\n", (0, f"{trace}E: b\n"))
        self.parted(f">>> a\n{trace}E: b\n", f">>> a\n{trace}E: c\n", (0, f"{trace}E: b\n"), ["IGNORE_EXCEPTION_DETAIL"])

    def sources(self, one, other, index):
        for texts in ((one, other), (other, one)):
            with self.assertRaises(BadSources) as caught:
                text_parted(*texts)
            self.assertEqual(caught.exception.index, index)

    def test_other_sources(self):
        self.sources(">>> a", ">>> b", 0)
        self.sources(">>> a\n1\n>>> b\n2", ">>> a\n3\n>>> c\n2", 1)
        self.sources(">>> a\n... b", ">>> a\n>>> b", 0)
        self.sources(">>> a", ">>>  a", 0)

    def test_an_example_more(self):
        self.sources("", ">>> a", 0)
        self.sources(">>> # a", ">>> a", 0)
        self.sources(">>> a\n1", ">>> a\n2\n>>> b", 1)
        self.sources(">>> a\n>>> b\n>>> c", ">>> a\n>>> b", 2)
        self.sources(">>> a\n>>> b\n>>> c\n>>> d", ">>> a\n>>> c\n", 1)

    def test_bare_sources(self):
        self.parted(">>> a # doctest: -SKIP\n1\n", ">>> a  \n1\n", None)
        self.parted("\t>>> a\n\t... \tb # doctest: +ELLIPSIS\n", "  >>> a # doctest: +SKIP, -SKIP\n  ...     b\n", None)
        self.sources(">>> a # doctest: -SKIP '\n1\n", ">>> a\n1\n", 0)

    def test_errors_in_their_order(self):
        with self.assertRaises(BadText) as caught:
            text_parted(">>>a", ">>> a\n>>>b", ["?"])
        self.assertEqual(caught.exception.line, 1)
        with self.assertRaises(BadText) as caught:
            text_parted(">>> a", ">>> a\n>>>b", ["?"])
        self.assertEqual(caught.exception.line, 2)
        for flag in (None, True, "", "elipsis", ["SKIP"], {}):
            with self.assertRaises(BadFlag) as caught:
                text_parted(">>> a", ">>> b", ["SKIP", flag, "?"])
            self.assertEqual(repr(caught.exception.flag), repr(BadFlag(flag).flag))

    def test_by_name(self):
        self.assertEqual(text_parted(flags=DOTS, other=text_of("a..."), one=text_of("a")), (0, "a\t\n"))


class IdleExamples(unittest.TestCase):
    def idle(self, text, found, flags=()):
        self.assertEqual(idle_examples(text, flags), found)
        self.assertIs(type(idle_examples(text, flags)), list)

    def test_none(self):
        self.idle("", [])
        self.idle("a\n>>> # b\n", [], DOTS)
        self.idle(text_of("", "1", "<BLANKLINE>", "a..."), [])

    def test_skipped_ones(self):
        self.idle(">>> a # doctest: +SKIP\n>>> # b\n>>> c\n>>> d # doctest: +SKIP\n1", [0, 2])
        self.idle(">>> a # doctest: -SKIP\n>>> b\n", [1], ["SKIP"])
        self.idle(text_of("1", "2", "3"), [0, 1, 2], ["SKIP"])

    def test_wants_that_take_all(self):
        # A want never begins with three points, but with words alone an empty line ahead of them is nothing.
        wants = text_of("x", "<BLANKLINE>\n...", "<BLANKLINE> \n  ......\n<BLANKLINE>", "<BLANKLINE>...", "<BLANKLINE>\n....")
        self.idle(wants, [1, 2], DOTS + SPACES)
        self.idle(wants, [], DOTS)
        self.idle(wants, [], SPACES)
        self.idle(wants, [], DOTS + SPACES + ["DONT_ACCEPT_BLANKLINE"])
        self.idle(wants.replace(">>> b", ">>> b # doctest: -ELLIPSIS"), [2], DOTS + SPACES)
        self.idle(wants.replace(">>> b", ">>> b # doctest: +ELLIPSIS"), [1], SPACES)

    def test_errors_in_their_order(self):
        for flag in (None, True, "", "elipsis", ["SKIP"], {}):
            with self.assertRaises(BadFlag) as caught:
                idle_examples(">>>a", ["SKIP", flag, "?"])
            self.assertEqual(repr(caught.exception.flag), repr(BadFlag(flag).flag))
        with self.assertRaises(BadText):
            idle_examples(">>>a", ["SKIP"])

    def test_by_name(self):
        self.assertEqual(idle_examples(flags=("SKIP",), text=">>> a\n1\n"), [0])


if __name__ == "__main__":
    unittest.main()
