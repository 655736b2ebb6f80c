"""Section 5, [20] to [24]: known answers, edges and wrong inputs."""

import unittest

from helpers import COMPARING, DOTS, NOBLANK, NOTRUE, SIGNS, SPACES
from promptyard.errors import BadIndex, BadLength, NotTaken
from promptyard.outputs import (
    alike_groups, beyond, index_of, is_alike, least_refused, least_taken, least_with, nth_taken, number_taken, parted, shared,
)

MARK = "<BLANKLINE>"
ALL = DOTS + NOBLANK


class Least(unittest.TestCase):
    def test_least_taken(self):
        for want, flags, output in (
            ("a\n", [], "a\n"),
            ("", [], ""),
            ("\n", [], "\n"),
            ("1\n", [], "1\n"),
            ("0\n", NOTRUE, "0\n"),
            (MARK + "\n", [], "\n"),
            (MARK + "\n", NOBLANK, MARK + "\n"),
            (MARK, [], ""),
            (" \n", [], " \n"),
            ("b  a\n", SPACES, "b\ta\n"),
            (" \n", SPACES, ""),
            ("a...z\n", [], "a...z\n"),
            ("a...z\n", DOTS, "az\n"),
            ("...b...a", DOTS + SPACES, "ba\n"),
            ("... a ...", DOTS + SPACES, "!\ta\t!\n"),
            ("...", DOTS, ""),
            ("...\n", DOTS, "\n"),
            # A line of one space is blank, and the blank lines of got are emptied.
            ("... \n...", DOTS, "! \n"),
            ("...  \n...", DOTS, "!  \n"),
            ("a\n" + MARK + " \n...b\n", DOTS, "a\n\nb\n"),
        ):
            self.assertEqual(least_taken(want, flags), output, (want, flags))

    def test_nothing_is_taken(self):
        for want, flags in (
            ("a", []), (" ", []), ("a", NOBLANK + NOTRUE), (MARK, NOBLANK), ("1", []), ("a...b", DOTS), ("...a ", DOTS),
            ("a\n" + MARK + "\nb", DOTS), ("......b", DOTS), ("...a .", DOTS),
        ):
            self.assertIsNone(least_taken(want, flags), (want, flags))
            self.assertEqual(least_refused(want, flags), "", (want, flags))
            self.assertEqual([number_taken(want, flags, length) for length in range(61)], [0] * 61)

    def test_all_is_taken(self):
        for want, flags in (
            ("...", DOTS), ("...", ALL + NOTRUE + SPACES), ("......", DOTS), ("......", DOTS + SPACES),
            ("...\n", DOTS + SPACES), (" ...\n\t", DOTS + SPACES), (MARK + "\n...", DOTS + SPACES),
        ):
            self.assertIsNone(least_refused(want, flags), (want, flags))
            self.assertEqual(least_taken(want, flags), "", (want, flags))
            self.assertEqual([number_taken(want, flags, length) for length in range(4)], [1, 1, 96, 96 * 96])

    def test_least_refused(self):
        for want, flags, output in (
            ("a\n", [], ""),
            ("", [], "\n"),
            ("", SPACES, "!\n"),
            (MARK, [], "\n"),
            ("...\n", DOTS, ""),
            ("...\n...", DOTS, ""),
            ("...\n...\n", DOTS, ""),
            ("a...", DOTS, ""),
            (" ", SPACES, "!\n"),
        ):
            self.assertEqual(least_refused(want, flags), output, (want, flags))

    def test_flags_may_be_left_out(self):
        self.assertEqual(least_taken("a...\n"), "a...\n")
        self.assertEqual(least_refused(""), "\n")


class Between(unittest.TestCase):
    def test_parted(self):
        for want, flags, other, other_flags, output in (
            ("a\n", [], "b\n", [], "a\n"),
            ("b\n", [], "a\n", [], "a\n"),
            ("aa\n", [], "b\n", [], "b\n"),
            ("a\n", [], "a\n", NOBLANK, None),
            ("\n", [], "\n", NOBLANK, "\t\n"),
            ("1\n", [], "1\n", NOTRUE, "True\n"),
            ("a b\n", [], "a b\n", SPACES, "a\tb\n"),
            ("a", [], "b", DOTS, None),
            ("a...\n", DOTS, "a...", DOTS, None),
            ("a...\n...", DOTS, "a...\n", DOTS, None),
            ("...", DOTS, "...\n", DOTS, ""),
            ("...", DOTS + SPACES, "...\n", DOTS + SPACES, None),
            ("......", DOTS, "...", DOTS, None),
            ("a ...\n", DOTS, "a ...\n", DOTS + SPACES, "a \n"),
            ("a...a\n", DOTS, "a...\n", DOTS, "a\n"),
            (MARK + "\n", [], "\n", [], MARK + "\n"),
            (MARK + "\n...", DOTS, "\n...", DOTS, None),
            ("....", DOTS, "......", DOTS, ""),
        ):
            self.assertEqual(parted(want, flags, other, other_flags), output, (want, flags, other, other_flags))
            self.assertEqual(parted(other, other_flags, want, flags), output, (want, flags, other, other_flags))
            self.assertIs(is_alike(want, flags, other, other_flags), output is None)
            self.assertIs(is_alike(other, other_flags, want, flags), output is None)

    def test_beyond(self):
        for want, flags, other, other_flags, output in (
            ("a\n", [], "b\n", [], "b\n"),
            ("a\n", [], "a\n", [], None),
            ("a\n", [], "a...\n", DOTS, "a\t\n"),
            ("a...\n", DOTS, "a\n", [], None),
            ("a\n", [], "", [], ""),
            ("...", DOTS, "a...", DOTS, None),
            ("a...", DOTS, "...", DOTS, ""),
            ("1\n", NOTRUE, "1\n", [], "True\n"),
            ("a", [], "b", [], None),
        ):
            self.assertEqual(beyond(want, flags, other, other_flags), output, (want, flags, other, other_flags))

    def test_shared(self):
        for want, flags, other, other_flags, output in (
            ("a\n", [], "b\n", [], None),
            ("a\n", [], "a\n", [], "a\n"),
            ("a...\n", DOTS, "...b\n", DOTS, "ab\n"),
            ("ab...\n", DOTS, "...ba\n", DOTS, "aba\n"),
            ("...", DOTS, "...", DOTS, ""),
            ("1\n", [], "True\n", [], "True\n"),
            ("1\n", [], "T...\n", DOTS, "True\n"),
            ("1\n", NOTRUE, "T...\n", DOTS, None),
            ("a b\n", SPACES, "a\nb\n", [], "a\nb\n"),
            ("a b\n", SPACES, "a...\n", DOTS, "a\tb\n"),
            ("... a...\n", DOTS, "a b\n", SPACES, " a\tb\n"),
            ("...x\n", DOTS, "...y\n", DOTS, None),
        ):
            self.assertEqual(shared(want, flags, other, other_flags), output, (want, flags, other, other_flags))
            self.assertEqual(shared(other, other_flags, want, flags), output)


class Several(unittest.TestCase):
    def test_least_with(self):
        a, b, c = [("..." + sign + "...", DOTS) for sign in "abc"]
        rest = ("...", DOTS)
        for taken, refused, output in (
            ([], [], ""),
            ([rest], [], ""),
            ([], [rest], None),
            ([rest], [rest], None),
            ([], [("", [])], "\n"),
            ([], [("", []), ("\n", NOBLANK)], "\t\n"),
            ([], [("", []), ("\n", [])], "\n\n"),
            ([], [("", SPACES), ("\n", [])], "!\n"),
            ([a, b, c], [], "abc\n"),
            ([c, b, a], [], "abc\n"),
            ([a, b], [c], "ab\n"),
            ([a, b], [("...ab...", DOTS)], "ba\n"),
            ([a, b], [("...ab...", DOTS), ("...ba...", DOTS)], "a\tb\n"),
            ([a, b], [("...ab...", DOTS), ("b...", DOTS)], "\tba\n"),
            ([a], [b, ("a...", DOTS), ("...a\n", DOTS)], "\ta\t\n"),
            ([("1\n", [])], [("1\n", NOTRUE)], "True\n"),
            ([("1\n", []), ("...e\n", DOTS)], [], "True\n"),
            ([("ab...", DOTS), ("...cd\n", DOTS)], [("ab...cd\n", DOTS)], None),
            ([("ab...", DOTS), ("...bc\n", DOTS)], [("ab...bc\n", DOTS)], "abc\n"),
            ([a, b, c, ("", [])], [], None),
            ([("a b\n", SPACES), a, b], [("a b\n", []), ("a\tb\n", [])], "a\nb\n"),
        ):
            self.assertEqual(least_with(taken, refused), output, (taken, refused))

    def test_alike_groups(self):
        self.assertEqual(alike_groups([]), [])
        self.assertEqual(alike_groups([("a\n", [])]), [[0]])
        self.assertEqual(alike_groups([("a", []), ("b\n", []), ("c", [])]), [[0, 2], [1]])
        self.assertEqual(
            alike_groups([("1\n", []), ("1\n", NOTRUE), ("1\n", NOBLANK), ("1\n", NOTRUE + NOBLANK), ("True\n", [])]),
            [[0, 2], [1, 3], [4]],
        )
        self.assertEqual(
            alike_groups([("...\n", DOTS), ("...", DOTS), ("...\n...", DOTS), ("....", DOTS), ("......\n", DOTS)]),
            [[0, 2, 4], [1], [3]],
        )
        self.assertEqual(alike_groups([("a b", SPACES), (" a\nb\n", SPACES), ("a b\n", []), ("a  b", SPACES)]), [[0, 1, 3], [2]])


class Numbers(unittest.TestCase):
    def raised(self, call, kind):
        with self.assertRaises(kind) as caught:
            call()
        return caught.exception

    def test_number_taken(self):
        for want, flags, numbers in (
            ("a\n", [], [0, 0, 1, 0, 0, 0]),
            ("", [], [1, 0, 0, 0, 0, 0]),
            ("", SPACES, [1, 1, 3, 9, 27, 81]),
            ("1\n", [], [0, 0, 1, 0, 0, 1]),
            ("0\n", [], [0, 0, 1, 0, 0, 0, 1]),
            ("0\n", NOTRUE, [0, 0, 1, 0, 0, 0, 0]),
            ("\n", [], [0, 1, 2, 4, 8, 16]),
            ("\n", NOBLANK, [0, 1, 0, 0, 0, 0]),
            (MARK + "\n", [], [0, 1, 2, 4, 8, 16, 32, 64, 128, 256, 512, 1024, 2049, 4096]),
            ("\n" + MARK + "\n", [], [0, 0, 1, 4, 12, 32]),
            ("a b\n", SPACES, [0, 0, 0, 0, 3, 27]),
            ("a...\n", DOTS, [0, 0, 1, 96, 96 ** 2, 96 ** 3]),
            ("a...b\n", DOTS, [0, 0, 0, 1, 96, 96 ** 2]),
            ("...a...", DOTS, [0, 0, 1, 96 ** 2 - 95 ** 2, 96 ** 3 - 95 ** 3]),
            ("...\n", DOTS, [0, 1, 96, 96 ** 2]),
            ("...", DOTS, [1, 1, 96, 96 ** 2]),
            ("a", [], [0, 0, 0, 0]),
            (" \n", [], [0, 0, 1, 0]),
        ):
            found = [number_taken(want, flags, length) for length, _ in enumerate(numbers)]
            self.assertEqual(found, numbers, (want, flags))

    def test_every_sign_counts_as_one(self):
        self.assertEqual(number_taken("...", ALL, 60), 96 ** 59)
        for sign in SIGNS:
            # Four points are cut from the left, so the fourth one stands at the end.
            self.assertEqual(number_taken(sign + "...", ALL, 3), 0 if sign == "." else 96, sign)

    def test_lengths_that_are_none(self):
        for wrong in (-1, -(10 ** 29), True, False, None, "1", "", 1.0, (1,), {}, {"a": 1}):
            self.assertEqual(repr(self.raised(lambda: number_taken("a\n", [], wrong), BadLength).length), repr(wrong))
        self.assertEqual(self.raised(lambda: number_taken("a\n", [], [1, [2]]), BadLength).length, (1, (2,)))

    def test_nth_taken(self):
        for want, flags, outputs in (
            ("a\n", [], ["a\n"]),
            ("1\n", [], ["1\n", "True\n"]),
            ("", SPACES, ["", "\n", "\t\n", "\n\n", " \n", "\t\t\n", "\t\n\n", "\t \n", "\n\t\n"]),
            ("a...\n", DOTS, ["a\n"] + ["a" + sign + "\n" for sign in SIGNS] + ["a\t\t\n", "a\t\n\n"]),
            ("\n", [], ["\n", "\t\n", " \n", "\t\t\n", "\t \n", " \t\n", "  \n"]),
        ):
            for index, output in enumerate(outputs):
                self.assertEqual(nth_taken(want, flags, index), output, (want, flags, index))
                self.assertEqual(index_of(want, flags, output), index, (want, flags, index))

    def test_indices_that_are_none(self):
        for wrong in (1, 2, 10 ** 29, -1, True, False, None, "0", 0.0, (0,), {"a": 0}):
            self.assertEqual(repr(self.raised(lambda: nth_taken("a\n", [], wrong), BadIndex).index), repr(wrong))
        self.assertEqual(self.raised(lambda: nth_taken("a\n", [], [0, [1]]), BadIndex).index, (0, (1,)))
        for want in ("a", "b...c"):
            self.assertEqual(self.raised(lambda: nth_taken(want, DOTS, 0), BadIndex).index, 0)

    def test_indices_up_to_outputs_of_sixty_signs(self):
        long = "a" * 59 + "\n"
        self.assertEqual(nth_taken(long, [], 0), long)
        self.assertEqual(index_of(long, [], long), 0)
        longer = "a" + long
        self.assertEqual(self.raised(lambda: nth_taken(longer, [], 0), BadIndex).index, 0)
        self.assertEqual(index_of(longer, [], longer), 0)
        self.assertEqual(number_taken(long, [], 60), 1)
        # Of all outputs there are one of length 0 and 96 ** (n - 1) of every other length n.
        last = sum(96 ** n for n in range(60))
        self.assertEqual(nth_taken("...", DOTS, last), "~" * 59 + "\n")
        self.assertEqual(index_of("...", DOTS, "~" * 59 + "\n"), last)
        self.assertEqual(self.raised(lambda: nth_taken("...", DOTS, last + 1), BadIndex).index, last + 1)
        self.assertEqual(index_of("...", DOTS, "\t" * 60 + "\n"), last + 1)
        self.assertEqual(index_of("...", DOTS, "~" * 119 + "\n"), sum(96 ** n for n in range(120)))

    def test_index_of(self):
        self.assertEqual(index_of("1\n", [], "True\n"), 1)
        self.assertEqual(index_of("", [], ""), 0)
        self.assertEqual(index_of("...", DOTS, "a\n"), 2 + SIGNS.index("a"))
        self.assertEqual(index_of("...\n", DOTS, "a\n"), 1 + SIGNS.index("a"))
        self.assertEqual(index_of(MARK, [], ""), 0)

    def test_outputs_that_are_not_taken(self):
        for want, flags, got in (
            ("a\n", [], "b\n"), ("a\n", [], ""), ("1\n", NOTRUE, "True\n"), ("...\n", DOTS, ""), ("a", [], "a\n"), ("a", [], ""),
            ("a b\n", [], "a  b\n"), ("\n", NOBLANK, " \n"),
        ):
            self.assertEqual(vars(self.raised(lambda: index_of(want, flags, got), NotTaken)), {})

    def test_texts_that_are_no_outputs(self):
        for want, flags, got in (("a", [], "a"), ("...", DOTS, "a"), ("...", DOTS, " "), ("...", DOTS, "a\nb"), (MARK, [], " ")):
            self.raised(lambda: index_of(want, flags, got), NotTaken)


class Flags(unittest.TestCase):
    def test_each_flag_matters_where_it_should(self):
        changes = {
            "1\n": {"DONT_ACCEPT_TRUE_FOR_1", "NORMALIZE_WHITESPACE"},
            MARK + "\n": {"DONT_ACCEPT_BLANKLINE", "NORMALIZE_WHITESPACE"},
            "a b\n": {"NORMALIZE_WHITESPACE"},
            "a...\n": {"ELLIPSIS", "NORMALIZE_WHITESPACE"},
            "ab": {"NORMALIZE_WHITESPACE"},
            "\n": {"DONT_ACCEPT_BLANKLINE", "NORMALIZE_WHITESPACE"},
        }
        for want, flags in changes.items():
            self.assertEqual({flag for flag in COMPARING if not is_alike(want, [], want, [flag])}, flags, want)

    def test_alike_sets_of_flags(self):
        pairs = [("\n", flags) for flags in ([], NOTRUE, NOBLANK, NOBLANK + DOTS, SPACES)]
        self.assertEqual(alike_groups(pairs), [[0, 1], [2, 3], [4]])
        pairs = [("\n", flags) for flags in (SPACES, SPACES + NOBLANK, DOTS, DOTS + NOTRUE, SPACES + DOTS)]
        self.assertEqual(alike_groups(pairs), [[0, 1, 4], [2, 3]])


if __name__ == "__main__":
    unittest.main()
