"""[16] to [19]: comparing, and how differences are told."""

import itertools
import unittest

from helpers import COMPARING, DOTS, NOBLANK, NOTRUE, SPACES, subsets
from promptyard.checker import check, check_error, detail_free, difference_text, indented, least_flags

DETAIL = ["IGNORE_EXCEPTION_DETAIL"]
MARK = "<BLANKLINE>"


class Check(unittest.TestCase):
    def lets(self, want, got, flags=()):
        self.assertIs(check(want, got, flags), True, (want, got, flags))

    def refuses(self, want, got, flags=()):
        self.assertIs(check(want, got, flags), False, (want, got, flags))

    def test_equal_texts_with_any_flags(self):
        for text in ("", "a\n", "a", "\n", "  \n", MARK, MARK + "\n", "1\n", "a ... b\n", "...", "\t\n a "):
            for flags in subsets():
                self.lets(text, text, flags)

    def test_other_texts(self):
        for want, got in (("a\n", "b\n"), ("a\n", "a"), ("a", "a\n"), ("a b\n", "a  b\n"), ("", "\n"), ("A", "a")):
            self.refuses(want, got)

    def test_truths(self):
        self.lets("1\n", "True\n")
        self.lets("0\n", "False\n")
        self.lets("1\n", "True\n", DOTS + SPACES + NOBLANK)
        self.refuses("1\n", "True\n", NOTRUE)
        self.refuses("0\n", "False\n", NOTRUE + DOTS + SPACES)

    def test_truths_are_so_one_way_and_alone(self):
        for want, got in (
            ("True\n", "1\n"), ("1\n", "False\n"), ("0\n", "True\n"), ("1", "True"), ("1\n", "True"), ("1", "True\n"),
            ("1\n\n", "True\n"), (" 1\n", "True\n"), ("1\n", " True\n"), ("1\n1\n", "True\nTrue\n"), ("2\n", "True\n"),
        ):
            self.refuses(want, got)
            self.refuses(want, got, SPACES + DOTS)

    def test_marks_of_blank_lines(self):
        self.lets("a\n" + MARK + "\nb\n", "a\n\nb\n")
        self.lets("a\n" + MARK + "\nb\n", "a\n \t \nb\n")
        self.lets(MARK + " \t\nb\n", "\nb\n")
        self.lets(MARK, "")
        self.lets(MARK, " \t")
        self.lets(MARK + "\n", "\n")
        self.lets("a\n" + MARK, "a\n")
        self.refuses(MARK, "\n")
        self.refuses(MARK + "\n", "")
        self.refuses(MARK + "\n", "\n\n")

    def test_what_is_no_mark(self):
        for want in (" " + MARK + "\n", MARK + "x\n", "x" + MARK + "\n", "<blankline>\n", MARK + MARK + "\n", MARK + " x\n"):
            self.refuses(want, "\n")
            self.lets(want, want)

    def test_blank_lines_of_got_become_empty_and_those_of_want_do_not(self):
        self.lets("\nb\n", " \t\nb\n")
        self.refuses(" \nb\n", "\nb\n")
        self.refuses(" \nb\n", "  \nb\n")
        self.lets("a\n", "a\n  ")
        self.refuses("a\n", "a\n  \n")
        self.refuses("a \n", "a\n")
        self.refuses("a\n", "a \n")

    def test_blank_lines_with_their_flag(self):
        self.refuses(MARK + "\n", "\n", NOBLANK)
        self.refuses("\nb\n", " \nb\n", NOBLANK)
        self.lets(MARK + "\n", MARK + "\n", NOBLANK)

    def test_a_mark_is_let_by_as_it_is_only_where_all_is_equal(self):
        self.lets(MARK + "\n", MARK + "\n")
        self.refuses(MARK + "\na\n", MARK + "\na \n")
        self.lets(MARK + "\na\n", MARK + "\na \n", SPACES + NOBLANK)
        self.refuses(MARK + "\na\n", MARK + "\na \n", SPACES)

    def test_words(self):
        self.lets("a b\n", " \ta\n\n b", SPACES)
        self.lets(" a\t\tb", "a b\n", SPACES)
        self.lets("", " \n\t\n", SPACES)
        self.refuses("a b\n", "ab\n", SPACES)
        self.refuses("a b\n", "b a\n", SPACES)
        self.refuses("a b\n", "a  b\n")

    def test_words_come_behind_blank_lines(self):
        self.lets("a\n" + MARK + "\nb", "a b\n", SPACES)
        self.refuses("a\n" + MARK + "\nb", "a b\n", SPACES + NOBLANK)
        self.lets("a\n" + MARK + "\nb", "a " + MARK + " b", SPACES + NOBLANK)
        self.refuses("a " + MARK + " b", "a b", SPACES)

    def test_dots(self):
        self.lets("a...z\n", "a b c z\n", DOTS)
        self.lets("a...z\n", "az\n", DOTS)
        self.lets("a...z\n", "a\n\n\nz\n", DOTS)
        self.lets("...", "", DOTS)
        self.lets("...", "anything\nat all", DOTS)
        self.lets("......", "", DOTS)
        self.lets("a...\n", "a\n", DOTS)
        self.refuses("a...\n", "a", DOTS)
        self.refuses("a...z\n", "a b c z\n")
        self.refuses("a...z\n", "b az\n", DOTS)
        self.refuses("a..z\n", "abz\n", DOTS)

    def test_dots_are_cut_from_the_left(self):
        self.lets("....", "x.", DOTS)
        self.refuses("....", ".x", DOTS)
        self.lets(".....", "x..", DOTS)
        self.refuses(".....", "x.", DOTS)
        self.lets("a....", "a.", DOTS)

    def test_pieces_stand_in_order_and_do_not_overlap(self):
        self.lets("a...b...c", "a b c", DOTS)
        self.refuses("a...b...c", "a c b c b", DOTS)
        self.refuses("a...c...b...c", "a b c", DOTS)
        self.refuses("a...a", "a", DOTS)
        self.lets("a...a", "aa", DOTS)
        self.refuses("ab...ba", "aba", DOTS)
        self.refuses("...aa...aa...", "aaa", DOTS)
        self.lets("...aa...aa...", "aaaa", DOTS)
        self.refuses("a...b...b", "ab", DOTS)
        self.lets("...ab...b", "aabb", DOTS)
        self.refuses("aa...a...a", "aaa", DOTS)

    def test_dots_come_behind_blank_lines_and_words(self):
        self.lets("a\n" + MARK + "\n...b\n", "a\n  \nx b\n", DOTS)
        self.refuses("a\n" + MARK + "\n...b\n", "a\n  \nx b\n", DOTS + NOBLANK)
        self.refuses("a\n  \n...b\n", "a\n  \nx b\n", DOTS)
        self.lets("a\n  \n...b\n", "a\n  \nx b\n", DOTS + NOBLANK)
        self.lets("a   ... b\n", "a x\nb", DOTS + SPACES)
        self.refuses("a ... b\n", "a b\n", DOTS + SPACES)
        self.lets("a...b\n", "a b\n", DOTS + SPACES)

    def test_a_flag_more_may_let_less_by(self):
        self.lets("a ...\n", "a \n", DOTS)
        self.refuses("a ...\n", "a \n", DOTS + SPACES)

    def test_against_the_stages_as_they_are_written(self):
        for want, got in itertools.product(texts(3), texts(4)):
            for flags in subsets():
                self.assertIs(check(want, got, flags), staged(want, got, flags), (want, got, flags))


def texts(most):
    tokens = ["a", " ", "\n", "...", MARK, "1\n", "True\n"]
    found = {"".join(words) for size in range(most) for words in itertools.product(tokens, repeat=size)}
    return sorted(found | {"a...a\n", "a ... a\n", "a a\n", " \na\n", "\na\n", MARK + " \na\n", "aa\n"})


def staged(want, got, flags):
    """Stage by stage, by other means than those of the program."""
    if want == got:
        return True
    if "DONT_ACCEPT_TRUE_FOR_1" not in flags and (want, got) in (("1\n", "True\n"), ("0\n", "False\n")):
        return True
    if "DONT_ACCEPT_BLANKLINE" not in flags:
        want = "".join(emptied(line, MARK) for line in lines(want))
        got = "".join(emptied(line, "") for line in lines(got))
        if want == got:
            return True
    if "NORMALIZE_WHITESPACE" in flags:
        want = " ".join(want.split())
        got = " ".join(got.split())
        if want == got:
            return True
    return "ELLIPSIS" in flags and "..." in want and spread(want.split("..."), got)


def lines(text):
    return text.splitlines(keepends=True)


def emptied(line, mark):
    if line.startswith(mark) and not line[len(mark):].strip():
        return "\n" if line.endswith("\n") else ""
    return line


def spread(pieces, got):
    """Whether there are any places at all for the pieces, trying all of them."""
    if len(pieces) == 1:
        return got.endswith(pieces[0])
    if not got.startswith(pieces[0]):
        return False
    rest = got[len(pieces[0]):]
    return any(spread(pieces[1:], rest[at:]) for at in range(len(rest) + 1) if len(pieces) > 2 or at == 0)


class CheckError(unittest.TestCase):
    def test_as_check_without_the_flag(self):
        for want, got in (("A: 1\n", "A: 1\n"), ("A: 1\n", "A: 2\n"), ("A: ...\n", "A: 2\n"), ("1\n", "True\n")):
            for flags in subsets():
                self.assertIs(check_error(want, got, flags), check(want, got, flags))

    def test_details(self):
        self.assertIs(check_error("A: 1\n", "A: 2\n"), False)
        self.assertIs(check_error("A: 1\n", "A: 2\n", DETAIL), True)
        self.assertIs(check_error("a.b.A: 1\n", "A\n", DETAIL), True)
        self.assertIs(check_error("A\n", "c.A: x\n", DETAIL), True)
        self.assertIs(check_error("A: 1\n", "B: 1\n", DETAIL), False)
        self.assertIs(check_error("A: 1\nmore\n", "A\n", DETAIL), True)

    def test_details_with_other_flags(self):
        self.assertIs(check_error("A... : 1\n", "ABC: 1\n", DETAIL), False)
        self.assertIs(check_error("A: 1\n", " A : 2\n", DETAIL), False)
        self.assertIs(check_error("A: 1\n", " A : 2\n", DETAIL + SPACES), True)
        # Of the dots of a name nothing is left but what stands behind the last one.
        self.assertIs(check_error("A...: 1\n", "ABC: 2\n", DETAIL + DOTS), False)
        self.assertIs(check_error("A...: 1\n", "ABC: 1\n", DETAIL + DOTS), True)

    def test_detail_free(self):
        for text, name in (
            ("", ""), ("A\n", "A"), ("A", "A"), ("A: 1\n", "A"), ("a.b.A: x.y: z\n", "A"), ("A:\n", "A"), (": x", ""),
            ("a.b\nc.d: e\n", "b"), ("a.\n", ""), ("a b: c", "a b"), ("\nA: 1\n", ""), ("A \n: x", "A "), ("a:b.c", "a"),
            ("...: x", ""), ("a.b.c", "c"),
        ):
            self.assertEqual(detail_free(text), name, text)


class Differences(unittest.TestCase):
    def test_both(self):
        self.assertEqual(difference_text("1\n2\n", "3\n"), "Expected:\n    1\n    2\nGot:\n    3\n")

    def test_nothing(self):
        self.assertEqual(difference_text("", ""), "Expected nothing\nGot nothing\n")
        self.assertEqual(difference_text("", "3\n"), "Expected nothing\nGot:\n    3\n")
        self.assertEqual(difference_text("1\n", ""), "Expected:\n    1\nGot nothing\n")

    def test_texts_without_a_line_feed(self):
        self.assertEqual(difference_text("a", "b"), "Expected:\n    aGot:\n    b")

    def test_blank_lines_of_got(self):
        self.assertEqual(
            difference_text("a\n\n  \nb\n", "a\n\n  \nb\n"),
            "Expected:\n    a\n\n      \n    b\nGot:\n    a\n    <BLANKLINE>\n    <BLANKLINE>\n    b\n",
        )
        self.assertEqual(
            difference_text("a\n", "\n \t\n  ", ["SKIP"]),
            "Expected:\n    a\nGot:\n    <BLANKLINE>\n     \t\n      ",
        )

    def test_blank_lines_of_got_with_their_flag(self):
        self.assertEqual(difference_text("a\n", "a\n\n  \n", NOBLANK), "Expected:\n    a\nGot:\n    a\n\n      \n")

    def test_indented(self):
        for text, shown in (
            ("", ""), ("a", "    a"), ("a\n", "    a\n"), ("\n", "\n"), ("\n\n", "\n\n"), (" \n", "     \n"),
            ("a\n\n\tb\n", "    a\n\n    \tb\n"), ("  a\nb", "      a\n    b"), ("\t", "    \t"),
        ):
            self.assertEqual(indented(text), shown, text)


class LeastFlags(unittest.TestCase):
    def test_known_ones(self):
        for want, got, sets in (
            ("a\n", "a\n", [()]),
            ("1\n", "True\n", [()]),
            ("a\n", "b\n", []),
            ("a b\n", "a  b\n", [("NORMALIZE_WHITESPACE",)]),
            ("a...\n", "abc\n", [("ELLIPSIS",)]),
            ("a ...\n", "a  b\n", [("ELLIPSIS",)]),
            ("a ... c\n", "a\nb  c\n", [("ELLIPSIS", "NORMALIZE_WHITESPACE")]),
            (MARK + "\na b\n", MARK + "\na  b\n", [("DONT_ACCEPT_BLANKLINE", "NORMALIZE_WHITESPACE")]),
            (MARK + "\na...", MARK + "\nax", [("DONT_ACCEPT_BLANKLINE", "ELLIPSIS")]),
            (" \n...", " \nx", [("DONT_ACCEPT_BLANKLINE", "ELLIPSIS"), ("ELLIPSIS", "NORMALIZE_WHITESPACE")]),
            ("", " ", [()]),
            ("\n ", "\n", [("NORMALIZE_WHITESPACE",)]),
        ):
            self.assertEqual(least_flags(want, got), sets, (want, got))

    def test_against_all_sixteen_sets(self):
        told = set()
        for want, got in itertools.product(texts(3), repeat=2):
            good = [flags for flags in subsets() if check(want, got, flags)]
            least = [flags for flags in good if not any(set(other) < set(flags) for other in good)]
            found = least_flags(want, got)
            self.assertEqual(found, least, (want, got))
            told.update(found)
        self.assertIn(("ELLIPSIS", "NORMALIZE_WHITESPACE"), told)
        self.assertEqual([flags for flags in subsets() if len(flags) == 1], [(flag,) for flag in sorted(COMPARING)])


if __name__ == "__main__":
    unittest.main()
