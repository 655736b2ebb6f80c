"""[5]: section 5 at its limits, with answers that are known by other means."""

import itertools
import math
import random
import unittest

from helpers import DOTS, NOBLANK, SIGNS, SPACES, order, subsets
from promptyard.checker import check
from promptyard.errors import BadIndex, NotTaken
from promptyard.outputs import (
    alike_groups, beyond, index_of, is_alike, least_refused, least_taken, least_with, nth_taken, number_taken, parted, shared,
)

MARK = "<BLANKLINE>"
LETTERS = "ABCDEFGHIJKLMNOPQRSTUVWXYZabcdefghijklmnopqrstuvwxyz"

# Wants of 91 to 100 characters.
WIDE = [
    "... " * 25, "...\n" * 25, "...a" * 25, "...ab" * 20, "...\t...\n" * 12 + "...", "... \t...\n" * 10 + "...",
    "...aab" * 16, "...aabaab" * 11, "...abcab...cab" * 7, "..." * 33, "." * 100, "...." * 25,
    (MARK + "\n") * 8, ("..." + MARK + "\n") * 6 + "...", (MARK + " \n") * 7 + "...\n", ("..." + MARK + "\na\n") * 5 + "...\n" * 3,
    "a b\tc\n" * 16, "a\n" * 50, " \n" * 50, "\n \t" * 33, "\n" * 100, " " * 100, "\t \n" * 33 + "\n", "a " * 49 + "a\n",
    "..." + " " * 96, "..." + "\n" * 97, "... \n \t\n...\n" * 8, "..." + " \t" * 24 + "..." + "\t " * 22 + "\n",
    "".join(sign for sign in SIGNS if sign not in "\n") + "\n", "...".join(LETTERS[:25]) + "\n", "... ".join(LETTERS[:20]) + "\n",
    "a..." + "\n... " * 19, "..." + "a...\n" * 19 + "\n", "x" * 99 + "\n", "..." + "x" * 96 + "\n", "x" * 50 + "..." + "x" * 46 + "\n",
]


def subsequence(sign_count, pieces, length):
    """How many bodies of a length have so many single signs in order."""
    return sum(math.comb(length, hits) * (sign_count - 1) ** (length - hits) for hits in range(pieces, length + 1))


class Single(unittest.TestCase):
    def test_the_wants_are_wide(self):
        for want in WIDE:
            self.assertIn(len(want), range(91, 101), want)

    def test_wide_wants_with_all_flags(self):
        for want in WIDE:
            for flags in map(list, subsets(["ELLIPSIS", "NORMALIZE_WHITESPACE", "DONT_ACCEPT_BLANKLINE"])):
                least = least_taken(want, flags)
                if least is None:
                    self.assertEqual(number_taken(want, flags, 60), 0)
                    continue
                self.assertIs(check(want, least, flags), True, (want, flags))
                self.assertEqual(index_of(want, flags, least), 0)
                refused = least_refused(want, flags)
                if refused is None:
                    self.assertEqual(number_taken(want, flags, 60), 96 ** 59)
                else:
                    self.assertIs(check(want, refused, flags), False, (want, flags))
                self.places(want, flags, least)

    def places(self, want, flags, least):
        for index in (7, 10 ** 30 - 1):
            try:
                output = nth_taken(want, flags, index)
            except BadIndex as error:
                self.assertEqual(error.index, index)
                if not flags:
                    self.assertLessEqual(sum(number_taken(want, flags, length) for length in range(61)), index)
                break
            self.assertIs(check(want, output, flags), True, (want, flags, index))
            self.assertGreater(order(output), order(least))
            self.assertEqual(index_of(want, flags, output), index)

    def test_outputs_of_up_to_120_signs_have_their_places(self):
        chance = random.Random(5)
        for want in WIDE:
            for flags in [flags for flags in subsets() if "ELLIPSIS" in flags]:
                parts = want.split("...")
                got = "".join(part + chance.choice(["", "!", "a", " \n", "!\t"]) for part in parts)[:119]
                self.placed(want, flags, got if got.endswith("\n") else got + "\n")

    def placed(self, want, flags, got):
        if not check(want, got, flags):
            with self.assertRaises(NotTaken):
                index_of(want, flags, got)
            return
        place = index_of(want, flags, got)
        if len(got) <= 60:
            self.assertEqual(nth_taken(want, flags, place), got)
        else:
            self.assertGreaterEqual(place, number_taken(want, flags, 60))
            with self.assertRaises(BadIndex):
                nth_taken(want, flags, place)

    def test_least_ones_that_are_known(self):
        for want, flags, output in (
            ("...a" * 25 + "...", DOTS, "a" * 25 + "\n"),
            ("...ab" * 20 + "...", DOTS, "ab" * 20 + "\n"),
            ("... " * 25, DOTS, None),
            ("... " * 24 + "...", DOTS, " " * 24 + "!\n"),
            ("... " * 24 + "...", DOTS + NOBLANK, " " * 24 + "\n"),
            ("...\n" * 25, DOTS, "\n" * 25),
            ((MARK + "\n") * 8, [], "\n" * 8),
            ((MARK + "\n") * 8, NOBLANK, (MARK + "\n") * 8),
            ("a " * 49 + "a\n", SPACES, "a\t" * 49 + "a\n"),
            (" \n" * 50, SPACES, ""),
            (" \n" * 50, [], " \n" * 50),
            ("..." * 33, DOTS, ""),
            ("." * 100, DOTS, None),
            ("." * 99 + "\n", DOTS, "\n"),
            ("." * 98 + "\n", DOTS, "..\n"),
        ):
            self.assertEqual(least_taken(want, flags), output, (want, flags))

    def test_numbers_that_are_known(self):
        for length in (0, 1, 24, 25, 26, 40, 59, 60):
            body = length - 1
            want = "...a" * 24 + "...\n"
            number = subsequence(96, 24, body) if body >= 24 else 0
            self.assertEqual(number_taken(want, DOTS + NOBLANK, length), number)
            self.assertEqual(number_taken("...".join([""] + list(LETTERS[:24]) + ["\n"]), DOTS + NOBLANK, length), number)
            # Blank lines have no letters, so it does not matter that they are emptied.
            self.assertEqual(number_taken(want, DOTS, length), number)
            # Fifteen words of one sign: blanks and line feeds stand in between, and perhaps around them.
            number = math.comb(length - 15, 15) * 3 ** (length - 16) if length >= 30 else 0
            self.assertEqual(number_taken(" ".join(LETTERS[:15]), SPACES, length), number)
            # Eight blank lines, and the want itself, which is longer than sixty signs.
            number = math.comb(length - 1, 7) * 2 ** (length - 8) if length >= 8 else 0
            self.assertEqual(number_taken((MARK + "\n") * 8, [], length), number)

    def test_many_words(self):
        want = "a b c d e " * 10
        self.assertEqual(number_taken(want, SPACES, 60), 0)
        self.assertEqual(number_taken(want, SPACES, 100), 3 ** 49)
        least = "\t".join("abcde" * 10) + "\n"
        self.assertEqual(least_taken(want, SPACES), least)
        self.assertEqual(index_of(want, SPACES, least.replace("\t", "\n")), (3 ** 49 - 1) // 2)


    def test_no_output_has_a_sign_that_texts_have_not(self):
        for sign in ("%", "\r", "\x00", "\u20ac"):
            self.assertIsNone(least_taken("a" + sign + "\n"))
            self.assertEqual(least_refused("..." + sign + "...", DOTS), "")
            self.assertEqual(number_taken("..." + sign + "...", DOTS, 9), 0)
            with self.assertRaises(NotTaken):
                index_of("...", DOTS, sign + "\n")


class Between(unittest.TestCase):
    def test_wide_wants_that_are_alike(self):
        for one, flags, two, others in (
            ("...a" * 25, DOTS, "...a" * 24 + "......a", DOTS),
            ("... " * 24 + "...", DOTS, "... " * 24 + "......", DOTS),
            ("...\n" * 25, DOTS, "..." + "\n" * 25, DOTS),
            ("a " * 49 + "a\n", SPACES, "\ta\n" * 33 + "a " * 17, SPACES),
            ((MARK + "\n") * 8, SPACES, "", SPACES),
            ("...b" + " " * 90 + "...", DOTS + SPACES, "...b ...", DOTS + SPACES),
            ("x" * 100, DOTS, "y" * 100, SPACES + DOTS),
            ("..." * 33, DOTS, "...", DOTS + NOBLANK),
        ):
            expected = {
                "...\n" * 25: False, "a " * 49 + "a\n": True, (MARK + "\n") * 8: False, "x" * 100: False,
            }.get(one, True)
            found = parted(one, flags, two, others)
            self.assertIs(is_alike(one, flags, two, others), expected, (one, two, found))
            self.assertIs(found is None, expected)
            if found is not None:
                self.assertIsNot(check(one, found, flags), check(two, found, others))

    def test_wide_wants_that_differ_late(self):
        one, two = "...".join(LETTERS[:25]) + "\n", "...".join(LETTERS[:24] + "~") + "\n"
        self.assertEqual(parted(one, DOTS, two, DOTS), LETTERS[:25] + "\n")
        self.assertEqual(beyond(one, DOTS, two, DOTS), LETTERS[:24] + "~\n")
        self.assertIsNone(shared(one, DOTS, two, DOTS))
        self.assertEqual(shared(one, DOTS, two + "...", DOTS), LETTERS[:24] + "~\nY\n")
        one, two = "...".join(["", *LETTERS[:24], "\n"]), "...".join(["", *LETTERS[24:48], "\n"])
        self.assertEqual(shared(one, DOTS, two, DOTS), LETTERS[:48] + "\n")
        self.assertEqual(shared(two, DOTS, one, DOTS + SPACES), LETTERS[:48] + "\n")

    def test_all_wide_wants_against_one_another(self):
        chance = random.Random(55)
        for one, two in chance.sample(list(itertools.combinations(WIDE, 2)), 300):
            flags, others = chance.choice(subsets()), chance.choice(subsets())
            for found, takes in (
                (beyond(one, flags, two, others), ([False, True],)),
                (shared(one, flags, two, others), ([True, True],)),
                (parted(one, flags, two, others), ([False, True], [True, False])),
            ):
                if found is not None:
                    self.assertIn([check(one, found, flags), check(two, found, others)], takes, (one, flags, two, others))


def spaced(pieces, width, end):
    """A want of a width, or one less, with dots around the pieces."""
    found = "..." + "...".join(pieces) + "..."
    return found + end if len(found + end) <= width else found


class Five(unittest.TestCase):
    """Five pairs with 220 characters together."""

    def test_pieces_that_have_no_sign_in_common(self):
        every = LETTERS + "0123456789!#$&'()*+,-/:;<=>?@[]^_`{|}~"
        for width, many in ((1, 10), (2, 8)):
            signs = sorted(every[:5 * width * many])
            pieces = ["".join(signs[at:at + width]) for at in range(0, len(signs), width)]
            chance = random.Random(width)
            for flags in (DOTS, DOTS + NOBLANK, DOTS + SPACES):
                wants = [spaced(sorted(pieces[place::5]), 44, "\n") for place in range(5)]
                chance.shuffle(wants)
                self.assertGreaterEqual(sum(map(len, wants)), 215)
                self.assertEqual(least_with([(want, flags) for want in wants], []), "".join(pieces) + "\n")

    def test_pieces_of_few_signs(self):
        for seed, signs in itertools.product(range(2), ("ab", "abc", " \t", " \n", "a b", "\ta\n")):
            chance = random.Random(seed)
            wants = [spaced(chance.choices(signs, k=10), 44, "\n") for _ in range(5)]
            flags = [DOTS, DOTS + NOBLANK, DOTS + SPACES, DOTS + NOBLANK, DOTS][seed:] + [DOTS] * seed
            pairs = list(zip(wants, flags))
            found = least_with(pairs, [])
            self.assertTrue(all(check(want, found, words) for want, words in pairs))
            if flags == [DOTS] * 5 and signs in ("ab", "abc"):
                self.assertEqual(found, least_supersequence([want.replace(".", "").strip() for want in wants]))
            for cut in range(5):
                output = least_with(pairs[:cut], pairs[cut:])
                if output is not None:
                    told = [check(want, output, words) for want, words in pairs]
                    self.assertEqual(told, [True] * cut + [False] * (5 - cut))

    def test_least_supersequences(self):
        for seed, signs in itertools.product(range(4), ("ab", "abc", "abcd")):
            chance = random.Random(seed)
            bodies = ["".join(chance.choices(signs, k=10)) for _ in range(5)]
            pairs = [(spaced(body, 44, "\n"), chance.choice([DOTS, DOTS + NOBLANK])) for body in bodies]
            self.assertEqual(least_with(pairs, []), least_supersequence(bodies))

    def test_nothing_is_left(self):
        pieces = [LETTERS[at::5] for at in range(5)]
        wants = [spaced(piece[:9], 44, "") + end for piece, end in zip(pieces, ("x\n", "y\n", "\n", "\n", ""))]
        self.assertIsNone(least_with([(want, DOTS) for want in wants], []))
        self.assertIsNotNone(least_with([(want, DOTS) for want in wants[1:]], []))
        # What begins with one and ends with another piece has both, which no two of them tell.
        one, two, both = "ab" * 20 + "...", "..." + "cd" * 20 + "\n", "ab" * 20 + "..." + "cd" * 20 + "\n"
        rest = ("...a...\n", DOTS)
        self.assertIsNone(least_with([(one, DOTS), (two, DOTS), rest], [(both, DOTS), ("", [])]))
        self.assertEqual(least_with([(one, DOTS), (two, DOTS), rest], [("", [])]), both.replace("...", ""))

    def test_blank_lines_among_many(self):
        lines = ["a\n" + MARK + "\nb\n...\n", "...\n" + MARK + " \nb\n...", "...b\n" + MARK + "\n...c\n", "a\n...\nb\n...c\n", "...\n"]
        found = least_with([(line, DOTS) for line in lines], [])
        self.assertEqual(found, "a\n\nb\n\nc\n")
        self.assertEqual(least_with([(line, DOTS) for line in lines], [(found, NOBLANK)]), "a\n\t\nb\n\nc\n")

    def test_groups(self):
        for one, two in (("...ab" * 8 + "...", "...ab" * 7 + "...ba..."), ("a " * 20 + "a\n", "a " * 20 + "b\n")):
            pairs = [(one, DOTS), (two, DOTS), (one, DOTS + NOBLANK), (one, DOTS + SPACES), (two, NOBLANK + DOTS)]
            groups = alike_groups(pairs)
            if "." in one:
                self.assertEqual(groups, [[0, 2, 3], [1, 4]])
            else:
                self.assertEqual(groups, [[0, 2], [1, 4], [3]])


def least_supersequence(bodies):
    """The least output that has the signs of each body in order, level by level."""
    level = {(0,) * len(bodies): ""}
    signs = sorted(set("".join(bodies)))
    goal = tuple(map(len, bodies))
    while goal not in level:
        ahead = {}
        for places, text in level.items():
            for sign in signs:
                to = tuple(at + (body[at:at + 1] == sign) for at, body in zip(places, bodies))
                ahead[to] = min(ahead.get(to, text + sign), text + sign)
        level = ahead
    return level[goal] + "\n"


if __name__ == "__main__":
    unittest.main()
