"""[7] to [14]: how a text is levelled, cut into pieces, and joined again."""

import unittest

from promptyard.errors import BadFlag, BadText, PromptError
from promptyard.texts import Comment, Example, error_of, examples_of, joined, levelled, parsed

HEADER = "Traceback (most recent call last):"
OLD_HEADER = "Traceback (innermost last):"

# A line without an indent, so that nothing is taken off the other ones.
FLUSH = "text\n"

FLAGS = (
    "DONT_ACCEPT_TRUE_FOR_1", "DONT_ACCEPT_BLANKLINE", "NORMALIZE_WHITESPACE", "ELLIPSIS", "SKIP",
    "IGNORE_EXCEPTION_DETAIL", "REPORT_ONLY_FIRST_FAILURE", "FAIL_FAST",
)


class Texts(unittest.TestCase):
    def wrong(self, text, line, reason, found):
        """The text is refused by all that reads its examples."""
        for read in (parsed, examples_of):
            with self.assertRaises(BadText, msg=text) as caught:
                read(text)
            error = caught.exception
            self.assertEqual((error.line, error.reason, error.found), (line, reason, found), text)

    def one(self, text):
        """The only piece of a text that is one."""
        [piece] = parsed(text)
        return piece


class Levelled(Texts):
    def test_tabs_at_any_column(self):
        for column in range(20):
            ahead = "x" * column
            width = column // 8 * 8 + 8
            self.assertEqual(levelled("|\n" + ahead + "\ty"), "|\n" + ahead.ljust(width) + "y")
            self.assertEqual(levelled(ahead + "\t\ty\n|"), ahead.ljust(width + 8) + "y\n|")
            self.assertEqual(levelled("|\n" + " " * column + "\ty"), "|\n" + " " * width + "y")

    def test_tabs_behind_spaces_and_tabs(self):
        self.assertEqual(levelled("a\n \tb\n  \t \tc\n"), "a\n" + " " * 8 + "b\n" + " " * 16 + "c\n")
        self.assertEqual(levelled("1234567\t1\t12345678\t\n"), "1234567 1" + " " * 7 + "12345678" + " " * 8 + "\n")

    def test_the_least_indent_is_taken_off(self):
        self.assertEqual(levelled("    a\n  b\n     c\n"), "  a\nb\n   c\n")
        self.assertEqual(levelled("   a"), "a")
        self.assertEqual(levelled("a\n   b"), "a\n   b")
        self.assertEqual(levelled("\ta\n         b\n"), "a\n b\n")

    def test_tabs_count_as_the_spaces_that_they_become(self):
        self.assertEqual(levelled("   \tx\n    y\n"), "    x\ny\n")
        # The columns are those ahead of the indent's being taken off.
        self.assertEqual(levelled("    a\tb\n    c\n"), "a   b\nc\n")

    def test_blank_lines_have_no_say_and_lose_what_they_have(self):
        self.assertEqual(levelled("    a\n  \n\n      \n    \n    b\n"), "a\n\n\n  \n\nb\n")
        self.assertEqual(levelled(" \n   a\n"), "\na\n")
        self.assertEqual(levelled("   a\n "), "a\n")
        self.assertEqual(levelled("   a\n     "), "a\n  ")
        self.assertEqual(levelled("  a\n\t\n"), "a\n      \n")

    def test_texts_of_blank_lines_alone_have_no_indent(self):
        for text in ("", "\n", "   ", "  \n   \n", "\n\n  "):
            self.assertEqual(levelled(text), text)
        self.assertEqual(levelled(" \t\n\t\t"), " " * 8 + "\n" + " " * 16)

    def test_the_last_line_feed_is_there_or_not_as_before(self):
        self.assertEqual(levelled("  a\n"), "a\n")
        self.assertEqual(levelled("  a"), "a")
        self.assertEqual(levelled("  a\n\n"), "a\n\n")


class Cutting(Texts):
    def test_texts_without_examples(self):
        self.assertEqual(parsed(""), [])
        for text in ("a", "a\n", "\n", "a\n\nb", "... 1\n", ">> 1\n", "a >>> 1\n", "  ... a\n..."):
            self.assertEqual(parsed(text), [levelled(text)])
            self.assertEqual(examples_of(text), [])

    def test_an_example_and_text_around_it(self):
        text = "Above.\n\n>>> 1 + 1\n2\n\nBelow.\n"
        example = Example("1 + 1\n", "2\n", line=3)
        self.assertEqual(parsed(text), ["Above.\n\n", example, "\nBelow.\n"])
        self.assertEqual(examples_of(text), [example])

    def test_further_lines(self):
        self.assertEqual(self.one(">>> if x:\n...     y\n...\n... z\n1\n2\n"), Example("if x:\n    y\n\nz\n", "1\n2\n"))

    def test_no_expected_lines(self):
        self.assertEqual(parsed(">>> a\n>>> b\n"), [Example("a\n"), Example("b\n", line=2)])
        self.assertEqual(parsed(">>> a\n\nb\n"), [Example("a\n"), "\nb\n"])
        self.assertEqual(parsed(">>> a\n  \nb\n"), [Example("a\n"), "  \nb\n"])
        self.assertEqual(self.one(">>> a").want, "")

    def test_expected_lines_end_at_a_prompt(self):
        self.assertEqual(parsed(">>> a\n1\n>>> b\n2\n"), [Example("a", "1"), Example("b", "2", line=3)])
        self.assertEqual(parsed("x\n  >>> a\n  1\n>>> b\n2\n")[1:], [Example("a", "1", line=2, indent=2), Example("b", "2", line=4)])
        self.assertEqual(parsed(">>> a\n1\n    >>> b\n    2\n"), [Example("a", "1"), Example("b", "2", line=3, indent=4)])

    def test_expected_lines_end_at_a_blank_one(self):
        self.assertEqual(parsed(">>> a\n1\n\n2\n"), [Example("a", "1"), "\n2\n"])
        self.assertEqual(parsed(">>> a\n1\n    \n2\n"), [Example("a", "1"), "    \n2\n"])
        self.assertEqual(parsed(">>> a\n1\n\t\n2\n"), [Example("a", "1"), "        \n2\n"])

    def test_dots_are_of_the_source_ahead_of_the_want_and_of_the_want_behind(self):
        self.assertEqual(self.one(">>> a\n... b\n1\n... c\n...d\n"), Example("a\nb", "1\n... c\n...d\n"))
        self.assertEqual(parsed(">>> a\n\n... b\n"), [Example("a"), "\n... b\n"])

    def test_a_last_line_without_a_line_feed(self):
        self.assertEqual(self.one(">>> a"), Example("a\n"))
        self.assertEqual(self.one(">>> a\n... b"), Example("a\nb\n"))
        self.assertEqual(self.one(">>> a\n1"), Example("a\n", "1\n"))
        self.assertEqual(parsed(">>> a\n\nb"), [Example("a\n"), "\nb"])
        self.assertEqual(parsed(">>> a\n  "), [Example("a\n"), "  "])

    def test_the_indent_is_that_of_the_levelled_text(self):
        self.assertEqual(self.one("    >>> a\n    1\n"), Example("a", "1"))
        self.assertEqual(parsed("  x\n     >>> a\n     ... b\n       1\n"), ["x\n", Example("a\nb", "  1", line=2, indent=3)])
        self.assertEqual(parsed("x\n\t>>> a\n\t1\n")[1], Example("a", "1", line=2, indent=8))

    def test_tabs_become_spaces_in_sources_and_wants_too(self):
        self.assertEqual(self.one(">>> a\tb\n...\tc\n1\t2\n"), Example("a   b\n    c\n", "1       2\n"))

    def test_blanks_at_the_ends_of_lines_stay(self):
        self.assertEqual(self.one(">>> a  \n...   \n1  \n"), Example("a  \n  \n", "1  \n"))

    def test_prompts_with_nothing_behind_them(self):
        self.assertEqual(self.one(">>> a\n...\n... \n"), Example("a\n\n\n"))
        self.assertEqual(self.one(">>>\n... a\n"), Example("\na\n"))
        self.assertEqual(self.one(">>> \n... a\n"), Example("\na\n"))
        self.assertEqual(self.one(">>>  \n... a\n"), Example(" \na\n"))
        self.assertEqual(self.one(">>>"), Comment("\n"))

    def test_lines_are_numbered_from_1_in_the_whole_text(self):
        text = "\n\n>>> a\n... b\n1\n2\n>>> c\n\n  \nx\n  >>> # d\n  >>> e"
        self.assertEqual([piece.line for piece in parsed(text) if not isinstance(piece, str)], [3, 7, 11, 12])

    def test_blank_lines_with_fewer_spaces_than_the_least_indent(self):
        text = "    >>> a\n    1\n  \n    >>> b\n\n    c\n"
        self.assertEqual(parsed(text), [Example("a", "1"), "\n", Example("b", line=4), "\nc\n"])

    def test_only_examples_are_examples(self):
        text = ">>> a\n>>> # b\nx\n\nc\n>>> d\n"
        self.assertEqual(examples_of(text), [Example("a"), Example("d", line=6)])
        self.assertEqual([type(piece) for piece in parsed(text)], [Example, Comment, str, Example])


class Wrong(Texts):
    def test_no_space_behind_a_prompt(self):
        self.wrong(">>>a\n", 1, "blank", ">>>")
        self.wrong(">>>>\n", 1, "blank", ">>>")
        self.wrong("x\n\n  >>>a", 3, "blank", ">>>")
        self.wrong(">>> a\n...b\n", 2, "blank", "...")
        self.wrong(">>> a\n....\n", 2, "blank", "...")
        self.wrong(">>> a\n... b\n...c\n", 3, "blank", "...")
        self.wrong(">>># a\n", 1, "blank", ">>>")

    def test_a_sign_at_the_place_of_the_space_in_a_line_that_is_less_indented(self):
        self.wrong(FLUSH + "  >>> 1\n ... 2\n", 3, "blank", ".. ")
        self.wrong(FLUSH + "  >>> 1\n... 2\n", 3, "indent", "... 2")
        self.wrong(FLUSH + "   >>> 1\n... abc\n", 3, "blank", " ab")
        self.wrong(FLUSH + "  >>> 1\n...  2\n", 3, "blank", ".  ")

    def test_a_further_line_that_is_more_or_less_indented(self):
        self.wrong(FLUSH + "  >>> 1\n      ... 2\n", 3, "indent", "      ... 2")
        self.wrong(FLUSH + "  >>> 1\n      ... 2\n      3\n", 3, "indent", "      ... 2")
        self.wrong(FLUSH + "    >>> 1\n...\n", 3, "indent", "...")
        self.wrong(FLUSH + "    >>> 1\n    ...\n  ... \n", 4, "indent", "  ... ")
        # With one space more or two, a point is at the place of the space.
        self.wrong(">>> 1\n ...\n", 2, "blank", " ..")
        self.wrong(">>> 1\n  ...\n", 2, "blank", "  .")
        self.wrong(">>> 1\n   ...\n", 2, "blank", "   ")
        self.wrong(">>> 1\n    ...\n", 2, "indent", "    ...")

    def test_an_expected_line_that_is_less_indented(self):
        self.wrong("  >>> 1\n2\n", 2, "indent", "2")
        self.wrong("   >>> 1\n   2\n  3\n 4\n", 3, "indent", " 3")
        self.wrong(FLUSH + "  >>> 1\n  2\n a  ", 4, "indent", " a  ")

    def test_found_lines_are_levelled_and_have_no_line_feed(self):
        self.wrong("    x\n\t>>> 1\n    2\t3\n", 3, "indent", "2   3")
        self.wrong("    x\n\t>>> 1\n\t\t... 2\n", 3, "indent", " " * 12 + "... 2")
        self.wrong("  x\n\t>>>1\n", 2, "blank", ">>>")

    def test_blank_comes_ahead_of_indent_and_source_lines_ahead_of_expected_ones(self):
        self.wrong(FLUSH + "  >>>1\n      ... 2\n3\n", 2, "blank", ">>>")
        self.wrong(FLUSH + "  >>> 1\n      ... 2\n  ...3\n4\n", 4, "blank", "...")
        self.wrong(FLUSH + "  >>> 1\n      ... 2\n3\n", 3, "indent", "      ... 2")
        self.wrong(FLUSH + "  >>> 1 # doctest: ?\n      ... 2\n", 3, "indent", "      ... 2")
        self.wrong(FLUSH + "  >>> 1 # doctest: ?\n2\n", 3, "indent", "2")
        self.wrong(FLUSH + "  >>> # doctest: +SKIP\n2\n", 3, "indent", "2")

    def test_examples_and_comments_come_one_after_another(self):
        self.wrong(FLUSH + "  >>> 1\n2\n  >>>3\n", 3, "indent", "2")
        self.wrong(">>> 1 # doctest: +X\n>>>2\n", 1, "option", "+X")
        self.wrong(">>> # doctest: +SKIP\n>>>2\n", 1, "no example", "# doctest: +SKIP\n")
        self.wrong(">>> # a\n>>> 1\n>>>2\n>>> 3 # doctest: +X\n", 3, "blank", ">>>")
        self.wrong(">>>\n...x\n>>>2\n", 2, "blank", "...")

    def test_comments_are_looked_at_likewise(self):
        self.wrong(FLUSH + "  >>> # 1\n ... # 2\n", 3, "blank", ".. ")
        self.wrong(FLUSH + "  >>>\n      ... #\n", 3, "indent", "      ... #")
        self.wrong(FLUSH + "  >>> # 1\n2\n", 3, "indent", "2")

    def test_the_first_wrong_word_of_an_option(self):
        self.wrong(">>> 1 # doctest: SKIP\n", 1, "option", "SKIP")
        self.wrong("\n>>> 1\n... 2 # doctest: +SKIP -X, +Y\n... 3 # doctest: Z\n", 2, "option", "-X")
        self.wrong(">>> 1 # doctest: +SKIP\n... 2\n... 3 # doctest: Z\n", 1, "option", "Z")
        for word in ("+", "-", "+skip", "++SKIP", "+-SKIP", "*SKIP", "SKIP+", "+SKIP+ELLIPSIS", "+SKIP;", "#", "=SKIP", "+REPORT_NDIFF"):
            self.wrong(">>> 1 # doctest:+FAIL_FAST," + word + ",x\n", 1, "option", word)

    def test_the_sign_alone_is_a_word(self):
        self.wrong(">>> 1 # doctest: + SKIP\n", 1, "option", "+")
        self.wrong(">>> 1 # doctest: +,SKIP\n", 1, "option", "+")

    def test_comments_with_options(self):
        self.wrong(">>> # doctest: +SKIP\n", 1, "no example", "# doctest: +SKIP\n")
        self.wrong("a\n>>>\n... # b # doctest: -ELLIPSIS\n...\n1\n", 2, "no example", "\n# b # doctest: -ELLIPSIS\n\n")
        self.wrong(">>> # doctest: +SKIP +X\n", 1, "option", "+X")

    def test_a_refused_text_is_a_prompt_error(self):
        with self.assertRaises(PromptError):
            parsed(">>>a")


class Comments(Texts):
    def test_lines_that_are_comments(self):
        for source in ("", "#", "# a", "  # a", "   ", "#a # b"):
            self.assertEqual(self.one(">>> " + source), Comment(source))
        self.assertEqual(self.one(">>> # a\n...   # b\n...\n...  \n"), Comment("# a\n  # b\n\n \n"))

    def test_comments_with_expected_lines(self):
        self.assertEqual(self.one(">>> # a\n1\n  2\n"), Comment("# a", "1\n  2\n"))
        self.assertEqual(self.one(">>>\n" + HEADER + "\nA: 1\n"), Comment("", HEADER + "\nA: 1\n"))
        self.assertEqual(parsed("x\n  >>> # a\n  1\n>>> b")[1:], [Comment("# a", "1", line=2, indent=2), Example("b", line=4)])

    def test_one_line_with_something_makes_it_an_example(self):
        self.assertEqual(self.one(">>> # a\n... b # c\n"), Example("# a\nb # c\n"))
        self.assertEqual(self.one(">>>\n...\n... 1\n"), Example("\n\n1\n"))
        self.assertEqual(self.one(">>> 1\n... # a\n"), Example("1\n# a\n"))

    def test_a_directive_without_words_is_no_option(self):
        self.assertEqual(self.one(">>> # doctest:\n"), Comment("# doctest:"))
        self.assertEqual(self.one(">>> # doctest: , ,\n"), Comment("# doctest: , ,"))
        self.assertEqual(self.one(">>> # doctest: +SKIP '\n"), Comment("# doctest: +SKIP '"))


class Options(Texts):
    def options(self, text, options, bare=None):
        example = self.one(text)
        self.assertEqual(example.options, options, text)
        for value in example.options.values():
            self.assertIs(type(value), bool)
        if bare is not None:
            self.assertEqual(example.bare, bare, text)

    def test_each_flag_on_and_off(self):
        for flag in FLAGS:
            self.options(">>> 1 # doctest: +" + flag, {flag: True}, "1\n")
            self.options(">>> 1 # doctest: -" + flag, {flag: False}, "1\n")

    def test_blanks_and_commas(self):
        both = {"SKIP": True, "ELLIPSIS": False}
        for words in ("+SKIP,-ELLIPSIS", "+SKIP -ELLIPSIS", " , +SKIP ,, -ELLIPSIS , ", "+SKIP\t-ELLIPSIS\t", ",+SKIP,\t-ELLIPSIS"):
            self.options(">>> 1  # doctest:" + words, both, "1\n")
        for head in ("#doctest:", "# doctest:", "#   doctest:", "#\tdoctest:", "#\t  doctest: "):
            self.options(">>> 1  " + head + "+SKIP,-ELLIPSIS", both, "1\n")

    def test_of_several_words_for_one_flag_the_last_one_counts(self):
        self.options(">>> 1 # doctest: +SKIP -SKIP\n", {"SKIP": False})
        self.options(">>> 1 # doctest: -SKIP +SKIP -SKIP +SKIP\n", {"SKIP": True})
        self.options(">>> 1 # doctest: +SKIP +ELLIPSIS\n... 2\n... 3 # doctest: -SKIP\n", {"SKIP": False, "ELLIPSIS": True})
        self.options(">>> 1 # doctest: +SKIP +SKIP\n", {"SKIP": True})

    def test_in_all_lines(self):
        self.options(
            ">>> f( # doctest: +SKIP\n...   2, # two\n... ) # doctest:-ELLIPSIS\n",
            {"SKIP": True, "ELLIPSIS": False}, "f(\n  2, # two\n)\n",
        )

    def test_a_directive_may_stand_alone_in_its_line(self):
        self.options(">>> 1\n... # doctest: +SKIP\n... 2\n", {"SKIP": True}, "1\n\n2\n")
        self.options(">>> # doctest: +SKIP\n... 1\n", {"SKIP": True}, "\n1\n")

    def test_directives_without_words(self):
        for text in (">>> 1 # doctest:", ">>> 1 # doctest: , ,\t", ">>> 1 #doctest:\n"):
            self.options(text, {}, "1\n")

    def test_no_directive_if_a_quotation_mark_is_behind(self):
        for text in ("1 # doctest: +SKIP 'a'", '1 # doctest: +SKIP "', "f('# doctest: +X')", "1 # doctest:'"):
            self.options(">>> " + text, {}, text + "\n")

    def test_a_quotation_mark_ahead_does_not_matter(self):
        self.options(">>> f('a', \"b\") # doctest: +SKIP", {"SKIP": True}, "f('a', \"b\")\n")
        self.options(">>> 'a # doctest: +SKIP", {"SKIP": True}, "'a\n")
        self.options(">>> 1 # doctest: '+X' # doctest: +SKIP", {"SKIP": True}, "1 # doctest: '+X'\n")
        self.options(">>> 1 # doctest: \"+X # it's # doctest: +SKIP", {"SKIP": True}, "1 # doctest: \"+X # it's\n")

    def test_the_first_such_sign_counts(self):
        self.wrong(">>> 1 # doctest: +SKIP # doctest: +ELLIPSIS\n", 1, "option", "#")
        self.options(">>> 1 # a # doctest: +SKIP", {"SKIP": True}, "1 # a\n")
        self.options(">>> 1 ## doctest: +SKIP", {"SKIP": True}, "1 #\n")
        self.wrong(">>> 1 # doctest: # a\n", 1, "option", "#")

    def test_what_is_no_directive(self):
        for text in ("1 doctest: +SKIP", "1 # doctest +SKIP", "1 # Doctest: +X", "1 # a doctest: +SKIP", "1 # doctest : +SKIP",
                     "1 # xdoctest: +SKIP", "1 #\n... doctest: +SKIP"):
            self.options(">>> " + text, {}, text.replace("... ", "") + "\n")

    def test_words_end_at_the_end_of_their_line(self):
        self.options(">>> 1 # doctest:\n... +SKIP\n", {}, "1\n+SKIP\n")

    def test_expected_lines_have_no_directives(self):
        self.options(">>> 1\n2 # doctest: +X\n", {}, "1\n")

    def test_bare_sources(self):
        for source, bare in (
            ("1", "1\n"), ("1  \n", "1\n"), ("  1\n", "  1\n"), ("1 \t \n  \n\t2\t\n", "1\n\n\t2\n"), ("1 # a  ", "1 # a\n"),
            ("1\t#\tdoctest:\t+X\t\n", "1\n"), ("# doctest: +SKIP", "\n"), ("", "\n"), ("a  # doctest: ?\nb #doctest:!\n", "a\nb\n"),
            ("a\n\n", "a\n\n"), ("'# doctest: +X'  ", "'# doctest: +X'\n"),
        ):
            self.assertEqual(Example(source).bare, bare, source)

    def test_what_is_passed_has_its_own_options(self):
        example = Example("1 # doctest: +SKIP", options={"ELLIPSIS": False})
        self.assertEqual((example.options, example.bare), ({"ELLIPSIS": False}, "1\n"))
        self.assertEqual(Example("1 # doctest: +SKIP").options, {})


class Errors(Texts):
    def test_both_headers(self):
        for header in (HEADER, OLD_HEADER):
            for blanks in ("", " ", "    "):
                self.assertEqual(error_of(header + blanks + "\n  File\nA: 1\n"), "A: 1\n")
                self.assertEqual(error_of(header + blanks + "\nA: 1"), "A: 1")

    def test_all_from_the_error_line_on(self):
        self.assertEqual(error_of(HEADER + "\n    ...\nA: 1\n  more\n\nB\n"), "A: 1\n  more\n\nB\n")

    def test_signs_with_which_an_error_line_begins(self):
        for sign in "azAZ09_":
            self.assertEqual(error_of(HEADER + "\n" + sign), sign)
            self.assertEqual(error_of(HEADER + "\n (\n\n" + sign + ".\n"), sign + ".\n")
        for sign in " .<('\"-#:[@`{/^~\t":
            self.assertIsNone(error_of(HEADER + "\n" + sign + "A: 1\n"), sign)
            self.assertEqual(error_of(HEADER + "\n" + sign + "A: 1\nB\n"), "B\n", sign)

    def test_tracebacks_without_an_error_line(self):
        for want in (HEADER, HEADER + "\n", HEADER + "  \n", HEADER + "\n  a\n  b\n", HEADER + "\n\n\n", HEADER + "\n ...\n<A>\n"):
            self.assertIsNone(error_of(want), want)

    def test_other_wants(self):
        for want in (
            "", "\n", "1\n", "A: 1\n", " " + HEADER + "\nA: 1\n", "\n" + HEADER + "\nA: 1\n", HEADER + " a\nA: 1\n",
            HEADER + "\t\nA: 1\n", HEADER[:-1] + "\nA: 1\n", HEADER.lower() + "\nA: 1\n", "Traceback (most recent call first):\nA\n",
            "a\n" + HEADER + "\nA: 1\n", HEADER.replace(" (", "  (") + "\nA: 1\n", "Traceback:\nA\n",
        ):
            self.assertIsNone(error_of(want), want)

    def test_the_errors_of_examples(self):
        text = ">>> a\n" + HEADER + "\n    ...\nA: 1\n>>> b\n2\n\n>>> c\n" + OLD_HEADER + " \n  x\n"
        self.assertEqual([example.error for example in examples_of(text)], ["A: 1\n", None, None])
        indented = "x\n  >>> a\n  " + HEADER + "\n    ...\n  A: 1\n"
        self.assertEqual(examples_of(indented)[0].error, "A: 1\n")
        self.assertEqual(self.one(">>> a\n" + HEADER + "  \n  File\nA").error, "A\n")


class Classes(Texts):
    def test_the_attributes_of_an_example(self):
        example = Example("a")
        values = {"source": "a\n", "want": "", "error": None, "line": 1, "indent": 0, "options": {}, "bare": "a\n"}
        self.assertEqual(vars(example), values)
        example = Example(want="b", source="a # doctest: +X", error="c", options={"SKIP": True}, indent=4, line=7)
        values = {
            "source": "a # doctest: +X\n", "want": "b\n", "error": "c\n", "line": 7, "indent": 4,
            "options": {"SKIP": True}, "bare": "a\n",
        }
        self.assertEqual(vars(example), values)

    def test_the_attributes_of_a_comment(self):
        self.assertEqual(vars(Comment("a")), {"source": "a\n", "want": "", "line": 1, "indent": 0})
        comment = Comment(want="b", source="# a", indent=4, line=7)
        self.assertEqual(vars(comment), {"source": "# a\n", "want": "b\n", "line": 7, "indent": 4})

    def test_line_feeds_are_put_where_none_is(self):
        for kind in (Example, Comment):
            for passed, held in (("a", "a\n"), ("a\n", "a\n"), ("", "\n"), ("a\n\n", "a\n\n"), ("\n", "\n")):
                self.assertEqual(kind(passed).source, held)
                self.assertEqual(kind("a", passed).want, held if passed else "")
        for passed, held in (("", "\n"), ("a", "a\n"), ("a\n", "a\n"), (None, None)):
            self.assertEqual(Example("a", error=passed).error, held)

    def test_what_stands_behind_the_star_is_passed_by_name(self):
        for call in (lambda: Example("a", "b", "c"), lambda: Comment("a", "b", 1), lambda: Comment("a", error="b"), Example, Comment):
            with self.assertRaises(TypeError):
                call()

    def test_options_are_copied(self):
        options = {"SKIP": True}
        example = Example("a", options=options)
        options["SKIP"] = False
        options["ELLIPSIS"] = True
        self.assertEqual(example.options, {"SKIP": True})
        self.assertIsNot(Example("a").options, Example("a").options)

    def test_options_with_keys_that_are_no_flags(self):
        for wrong in (None, True, 0, -1, "", "skip", "+SKIP", "SKIP ", (), ("SKIP",), ("a", (1, None))):
            with self.assertRaises(BadFlag) as caught:
                Example("a", options={"SKIP": True, wrong: True, "ELLIPSIS": False, "?": True})
            self.assertEqual(repr(caught.exception.flag), repr(wrong))
        with self.assertRaises(BadFlag) as caught:
            Example("a", options={"?": True, "!": True})
        self.assertEqual(caught.exception.flag, "?")
        self.assertEqual(set(Example("a", options={flag: True for flag in FLAGS}).options), set(FLAGS))

    def test_equal_examples(self):
        parts = {"want": "b", "error": "c", "line": 2, "indent": 3, "options": {"SKIP": True, "ELLIPSIS": False}}
        example = Example("a", **parts)
        same = Example("a\n", "b\n", error="c\n", line=2, indent=3, options={"ELLIPSIS": False, "SKIP": True})
        self.assertIs(example == same, True)
        self.assertIs(example != same, False)
        others = {"want": "x", "error": None, "line": 1, "indent": 0, "options": {"SKIP": True}}
        for name, other in others.items():
            self.assertIs(example == Example("a", **{**parts, name: other}), False, name)
            self.assertIs(example != Example("a", **{**parts, name: other}), True, name)
        self.assertIs(example == Example("b", **parts), False)
        self.assertIs(example == Example("a", **{**parts, "options": {"SKIP": False, "ELLIPSIS": False}}), False)
        # The bare sources are equal, and the sources are not.
        self.assertIs(Example("a") == Example("a "), False)

    def test_equal_comments(self):
        comment = Comment("a", "b", line=2, indent=3)
        self.assertIs(comment == Comment("a\n", "b\n", line=2, indent=3), True)
        self.assertIs(comment != Comment("a\n", "b\n", line=2, indent=3), False)
        for other in (
            Comment("x", "b", line=2, indent=3), Comment("a", "", line=2, indent=3),
            Comment("a", "b", line=1, indent=3), Comment("a", "b", line=2, indent=0),
        ):
            self.assertIs(comment == other, False)
            self.assertIs(comment != other, True)

    def test_nothing_else_is_equal(self):
        for thing in (Example("#"), Comment("#")):
            for other in (None, True, 0, "#", "#\n", ("#\n",), [], {}, vars(thing), object()):
                self.assertIs(thing == other, False)
                self.assertIs(other == thing, False)
                self.assertIs(thing != other, True)
        self.assertIs(Example("#") == Comment("#"), False)
        self.assertIs(Comment("#") == Example("#"), False)

    def test_neither_is_a_subclass_of_the_other_one(self):
        self.assertFalse(issubclass(Example, Comment))
        self.assertFalse(issubclass(Comment, Example))
        for kind in (Example, Comment):
            self.assertIn("__eq__", vars(kind))
            self.assertIn("__init__", vars(kind))

    def test_each_reading_makes_new_ones(self):
        text = ">>> a # doctest: +SKIP\n"
        first = parsed(text)
        first[0].options["SKIP"] = False
        first.append(1)
        self.assertEqual(parsed(text), [Example("a # doctest: +SKIP", options={"SKIP": True})])


class Joined(Texts):
    def test_pieces(self):
        pieces = ["a\n", Example("b\n\nc", "1\n 2", indent=2), "\n", Comment("# d", "3", indent=1), Comment(""), Example("e"), "f"]
        text = "a\n  >>> b\n  ...\n  ... c\n  1\n   2\n\n >>> # d\n 3\n>>>\n>>> e\nf"
        self.assertEqual(joined(pieces), text)
        self.assertEqual(joined(tuple(pieces)), text)

    def test_lines_and_errors_and_options_do_not_matter(self):
        self.assertEqual(joined([Example("a", "b", error="c", line=9, options={"SKIP": True})]), ">>> a\nb\n")
        self.assertEqual(joined([Comment("a", "b", line=9)]), ">>> a\nb\n")

    def test_nothing(self):
        self.assertEqual(joined([]), "")
        self.assertEqual(joined(["", ""]), "")

    def test_empty_lines(self):
        self.assertEqual(joined([Example("\n\n", "\n\n", indent=1)]), " >>>\n ...\n \n \n")
        self.assertEqual(joined([Example("a", "1\n\n2", indent=2)]), "  >>> a\n  1\n  \n  2\n")
        self.assertEqual(joined([Comment("\n \n", indent=1)]), " >>>\n ...  \n")

    def test_what_is_left_out_and_what_is_put_there(self):
        for text, other in (
            (">>> \n", ">>>\n"), (">>> a\n... \n1 \n", ">>> a\n...\n1 \n"), (">>>  \n", ">>>  \n"), (">>> a", ">>> a\n"),
            (">>> a\n1", ">>> a\n1\n"), ("a\n  >>> b\n  ... ", "a\n  >>> b\n  ...\n"), ("a", "a"), (">>> \na ", ">>>\na \n"),
            (">>> a\n\n... ", ">>> a\n\n... "), ("  a\n\t>>> b", "a\n      >>> b\n"),
        ):
            self.assertEqual(joined(parsed(text)), other)
            self.assertEqual(parsed(other), parsed(text))


if __name__ == "__main__":
    unittest.main()
