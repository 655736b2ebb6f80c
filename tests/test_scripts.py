"""[15]: texts as scripts."""

import unittest

from promptyard.errors import BadText
from promptyard.scripts import script_of
from promptyard.texts import parsed

HEADER = "Traceback (most recent call last):"


class Scripts(unittest.TestCase):
    def script(self, text, script):
        self.assertEqual(script_of(text), script, repr(text))

    def test_sources_and_wants_and_strings(self):
        self.script(
            "Above.\n\n    >>> f(\n    ...     1)  # one\n    1\n      2\n\n  Below.\n    >>> g\n    >>> h\n    3\n",
            "# Above.\n#\nf(\n    1)  # one\n# Expected:\n## 1\n##   2\n#\n#   Below.\ng\nh\n# Expected:\n## 3\n",
        )

    def test_examples_alone(self):
        self.script(">>> a", "a\n")
        self.script(">>> a\n>>> b", "a\nb\n")
        self.script(">>> a\n1", "a\n# Expected:\n## 1\n")

    def test_tracebacks_are_wants(self):
        self.script(">>> a\n" + HEADER + "\nA: 1\n", "a\n# Expected:\n## " + HEADER + "\n## A: 1\n")

    def test_directives_stay(self):
        self.script(">>> a # doctest: +SKIP\n", "a # doctest: +SKIP\n")

    def test_blanks_at_the_ends_of_lines(self):
        self.script("a  \n \t\n  b\t\n>>> c  \n1  \n", "# a\n#\n#   b\nc  \n# Expected:\n## 1  \n")

    def test_texts_are_levelled(self):
        self.script("   a\n     b\tc\n   >>> d\te\n", "# a\n#   b  c\nd        e\n")

    def test_comments_give_nothing(self):
        self.script(">>> # a\n1\n>>> b\n", "b\n")
        self.script("a\n>>>\n... # b\n1\n\nc\n", "# a\n#\n# c\n")
        self.script(">>> a\n>>> # b\n", "a\n")

    def test_empty_lines_at_the_beginning_and_at_the_end_of_it_all(self):
        self.script("\n\n>>> a\n\n\n", "a\n")
        self.script("\n  \na\n\n  \n", "# a\n")
        self.script("\n>>> # a\n\n>>>\n\n>>> b\n\n>>> # c\n\n", "b\n")
        self.script("a\n\n>>> # b\n\n>>> c\n", "# a\n#\n#\nc\n")
        self.script("\n>>> a\n\n>>> b\n\n", "a\n#\nb\n")

    def test_lines_of_other_pieces_stay_though_they_are_like_that(self):
        self.script(">>> #\n... a\n\n", "#\na\n")
        self.script("\n>>> a\n... #\n\n", "a\n#\n")
        self.script(">>>\n... a\n...\n", "\na\n\n")
        self.script(">>> #\n... #\n... a\n", "#\n#\na\n")

    def test_lines_of_text_that_begin_so_themselves(self):
        self.script("#\n>>> a\n#\n\n#\n", "# #\na\n# Expected:\n## #\n#\n# #\n")

    def test_a_last_line_without_a_line_feed(self):
        self.script("a", "# a\n")
        self.script(">>> a\n\nb", "a\n#\n# b\n")
        self.script("a\n\n ", "# a\n")

    def test_nothing_is_left(self):
        for text in ("", "\n", "   ", "\n\n \n\t\n", ">>> # a", ">>>\n1\n", "\n>>> # a\n\n", "\n\n>>>\n... \n1\n\n\n>>> # doctest:\n"):
            self.script(text, "\n")

    def test_all_is_said_of_the_pieces(self):
        text = "\na\n\n>>> b # doctest: +SKIP\n... c\n1\n>>> # d\n2\n\n\ne\n>>> f\n\n"
        kinds = [type(piece).__name__ for piece in parsed(text)]
        self.assertEqual(kinds, ["str", "Example", "Comment", "str", "Example", "str"])
        self.script(text, "# a\n#\nb # doctest: +SKIP\nc\n# Expected:\n## 1\n#\n#\n# e\nf\n")

    def test_texts_that_are_wrong(self):
        for text, told in (
            ("a\n>>>b\n", (2, "blank", ">>>")),
            ("a\n  >>> b\nc\n", (3, "indent", "c")),
            (">>> a # doctest: +X\n", (1, "option", "+X")),
            ("\n>>> # doctest: +SKIP\n", (2, "no example", "# doctest: +SKIP\n")),
        ):
            with self.assertRaises(BadText) as caught:
                script_of(text)
            self.assertEqual((caught.exception.line, caught.exception.reason, caught.exception.found), told)


if __name__ == "__main__":
    unittest.main()
