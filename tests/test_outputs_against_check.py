"""Section 5 held against check itself, over all short outputs of the signs that matter."""

import functools
import itertools
import random
import unittest

from helpers import SIGNS, first, order, outputs, subsets, taken_among
from promptyard.checker import check
from promptyard.errors import NotTaken
from promptyard.outputs import (
    alike_groups, beyond, index_of, is_alike, least_refused, least_taken, least_with, nth_taken, number_taken, parted, shared,
)

# The exclamation mark is the least sign that no want has, and stands for all of these.
MATTERING = "\t\n !ab."
MOST = 5
SHORT = outputs(MATTERING, MOST)
UNHEEDED = len(SIGNS) - len(MATTERING) + 1
MARK = "<BLANKLINE>"

WANTS = [
    "", "\n", " ", " \n", "\t", "\t\n", "  \n", "\n\n", "\n\n\n", "\n \n", " \n\n", "a", "a\n", "a\n\n", "\na\n", " a\n", "a \n",
    "a b\n", "a b", "a\tb\n", "ab\n", "aa\n", "a\nb\n", "a\n\nb\n", "a\n \nb\n", "a  b\n", ".\n", "..\n",
    "...", "...\n", "......", "......\n", "....", "....\n", ".....", "...a", "...a\n", "a...", "a...\n", "a...a\n", "a...b\n",
    "...a...", "...a...\n", "...a...b...", "...a...a...\n", "...ab...\n", "...aa...\n", "...aa...a\n", "...aba...\n", "ab...ba\n",
    "... \n", " ...", " ...\n", "a ...\n", "a... \n", "... a\n", "a ... b\n", "a... b\n", "... ...", "... ...\n", "...\t...",
    "... ... ...\n", "...\n...", "...\n...\n", "...\n\n...", "...\n \n...", "...\n ...\n", "... \n...", "a...\n...\n", "a\n...",
    "a\n...b\n", "\n...", "\n...\n", " \n...\n", "...  ...\n", "... \t...", "...\t\n", "...a ...\n", "... a...\n", "... . ...\n",
    MARK, MARK + "\n", MARK + " \n", MARK + MARK + "\n", " " + MARK + "\n", MARK + "\n" + MARK, MARK + "\n" + MARK + "\n",
    "a\n" + MARK, "a\n" + MARK + "\n", MARK + "\na\n", "a\n" + MARK + "\nb\n", "\n" + MARK + "\n", " \n" + MARK + "\n",
    MARK + "...", MARK + "\n...", MARK + "\n...\n", "..." + MARK, "...\n" + MARK, "...\n" + MARK + "\n", "a...\n" + MARK + "\n...",
    MARK + "\n... \n", "...\n" + MARK + "\n \n...", MARK + " a\n", "a " + MARK + "\n",
]


@functools.cache
def short_taken(want, flags):
    """The short outputs that check lets by, in order."""
    return tuple(taken_among(SHORT, want, flags))


def weight(output):
    """How many outputs one of the short ones stands for."""
    return UNHEEDED ** output.count("!")


class Single(unittest.TestCase):
    def test_least_ones_and_numbers(self):
        for want in WANTS:
            for flags in subsets():
                taken = short_taken(want, flags)
                refused = sorted(set(SHORT) - set(taken), key=order)
                self.held(least_taken(want, flags), first(taken), (want, flags), {(want, flags): True})
                self.held(least_refused(want, flags), first(refused), (want, flags), {(want, flags): False})
                for length in range(MOST + 1):
                    number = sum(weight(output) for output in taken if len(output) == length)
                    self.assertEqual(number_taken(want, flags, length), number, (want, flags, length))

    def held(self, found, least, place, judged):
        """Hold an output that was found against the least one among the short ones."""
        if least is not None or found is None:
            self.assertEqual(found, least, place)
            return
        self.assertGreater(len(found), MOST, place)
        for (want, flags), taken in judged.items():
            self.assertIs(check(want, found, flags), taken, place)

    def test_truths(self):
        many = sorted(SHORT + ["1\n", "0\n", "T\n", "Te\n", "True\n", "False\n"], key=order)
        for want in ("1\n", "0\n", "True\n", "1\n\n", "1", " 1\n", "1...\n", "...1\n", "T...\n", "0..."):
            for flags in subsets():
                taken = taken_among(many, want, flags)
                found = least_taken(want, flags)
                if taken:
                    self.assertEqual(found, taken[0], (want, flags))
                for other in ("True\n", "False\n", "T...e\n"):
                    for other_flags in ((), ("ELLIPSIS",)):
                        both = taken_among(taken, other, other_flags)
                        found = shared(want, flags, other, other_flags)
                        if both:
                            self.assertEqual(found, both[0], (want, flags, other, other_flags))

    def test_places(self):
        chance = random.Random(24)
        for want in WANTS:
            for flags in chance.sample(subsets(), 4):
                taken = short_taken(want, flags)
                for output in SHORT[:60] + chance.sample(SHORT, 20):
                    if output not in taken:
                        with self.assertRaises(NotTaken):
                            index_of(want, flags, output)
                for output in chance.sample(taken, min(6, len(taken))):
                    place = index_of(want, flags, output)
                    ahead = sum(weight(less) for less in taken if len(less) < len(output))
                    level = [less for less in taken if len(less) == len(output)]
                    self.assertGreaterEqual(place, ahead, (want, flags, output))
                    self.assertLess(place, ahead + sum(map(weight, level)), (want, flags, output))
                    self.assertEqual(nth_taken(want, flags, place), output, (want, flags, place))

    def test_the_first_places_one_after_another(self):
        every = outputs(SIGNS, 3)
        for want in WANTS[::4]:
            for flags in ((), ("ELLIPSIS",), ("ELLIPSIS", "NORMALIZE_WHITESPACE"), ("DONT_ACCEPT_BLANKLINE", "ELLIPSIS")):
                taken = taken_among(every, want, flags)
                for place in [*range(0, len(taken), max(1, len(taken) // 7)), len(taken) - 1]:
                    if taken:
                        self.assertEqual(nth_taken(want, flags, place), taken[place], (want, flags, place))
                        self.assertEqual(index_of(want, flags, taken[place]), place, (want, flags, place))


class Several(unittest.TestCase):
    held = Single.held

    def judge(self, pairs):
        """Which of the short outputs each of the pairs takes."""
        return [set(short_taken(want, flags)) for want, flags in pairs]

    def test_two_wants(self):
        chance = random.Random(22)
        for _ in range(800):
            one, two = [(chance.choice(WANTS), chance.choice(subsets())) for _ in range(2)]
            if chance.random() < 0.2:
                two = (one[0], two[1])
            ones, twos = self.judge([one, two])
            for other, others, mine, mines in ((one, ones, two, twos), (two, twos, one, ones)):
                least = first(sorted(others - mines, key=order))
                self.held(beyond(*mine, *other), least, (mine, other), {mine: False, other: True} if mine != other else {})
                least = first(sorted(others & mines, key=order))
                self.held(shared(*mine, *other), least, (mine, other), {mine: True, other: True})
                least = first(sorted(others ^ mines, key=order))
                found = parted(*mine, *other)
                self.held(found, least, (mine, other), {})
                if found is not None:
                    self.assertIsNot(check(mine[0], found, mine[1]), check(other[0], found, other[1]))
                self.assertIs(is_alike(*mine, *other), found is None)

    def test_up_to_five_wants(self):
        chance = random.Random(23)
        loose = [want for want in WANTS if "..." in want]
        for _ in range(600):
            pairs = [(chance.choice(loose), chance.choice(subsets()[2:])) for _ in range(chance.randint(1, 5))]
            cut = chance.randint(0, len(pairs))
            judged = self.judge(pairs)
            left = set(SHORT).intersection(*judged[:cut]).difference(*judged[cut:])
            wanted = {pair: place < cut for place, pair in enumerate(pairs)}
            self.held(least_with(pairs[:cut], pairs[cut:]), first(sorted(left, key=order)), (pairs, cut), wanted)

    def test_groups(self):
        chance = random.Random(221)
        for _ in range(300):
            wants = chance.sample(WANTS, 2)
            pairs = [(chance.choice(wants), chance.choice(subsets())) for _ in range(chance.randint(0, 5))]
            judged = self.judge(pairs)
            groups = alike_groups(pairs)
            self.assertEqual(sorted(itertools.chain(*groups)), list(range(len(pairs))))
            self.assertEqual(groups, sorted(sorted(group) for group in groups))
            for one, two in itertools.combinations(range(len(pairs)), 2):
                together = any(one in group and two in group for group in groups)
                self.assertIs(together, is_alike(*pairs[one], *pairs[two]), pairs)
                if together:
                    self.assertEqual(judged[one], judged[two], pairs)


class ItHolds(unittest.TestCase):
    """[25]."""

    def test_parted_is_none_just_if_no_output_is_taken_by_one_alone(self):
        chance = random.Random(25)
        pairs = [(want, flags) for want in chance.sample(WANTS, 40) for flags in chance.sample(subsets(), 2)]
        judged = [short_taken(want, flags) for want, flags in pairs]
        for one, two in itertools.product(range(len(pairs)), repeat=2):
            found = parted(*pairs[one], *pairs[two])
            if found is None:
                self.assertEqual(judged[one], judged[two], (pairs[one], pairs[two]))
            else:
                takes = [check(want, found, flags) for want, flags in (pairs[one], pairs[two])]
                self.assertIn(takes, ([True, False], [False, True]))

    def test_being_alike_goes_on(self):
        chance = random.Random(251)
        pairs = [(want, flags) for want in chance.sample(WANTS, 20) for flags in chance.sample(subsets(), 2)]
        alike = [[is_alike(*one, *two) for two in pairs] for one in pairs]
        for place, row in enumerate(alike):
            self.assertIs(row[place], True)
            for other, told in enumerate(row):
                self.assertIs(alike[other][place], told)
                if told:
                    self.assertEqual(alike[other], row)

    def test_nothing_is_taken_below_the_least(self):
        chance = random.Random(253)
        for want in WANTS:
            for flags in chance.sample(subsets(), 5):
                least = least_taken(want, flags)
                most = 12 if least is None else len(least)
                self.assertEqual([number_taken(want, flags, length) for length in range(most)], [0] * most)
                if least is not None:
                    self.assertGreater(number_taken(want, flags, len(least)), 0)
                    self.assertEqual(nth_taken(want, flags, 0), least)
                    self.assertEqual(index_of(want, flags, least), 0)

    def test_places_and_outputs_are_inverse(self):
        chance = random.Random(252)
        for want in WANTS:
            flags = chance.choice(subsets())
            many = sum(number_taken(want, flags, length) for length in range(13))
            for index in {chance.randrange(many) for _ in range(5)} if many else ():
                output = nth_taken(want, flags, index)
                self.assertIs(check(want, output, flags), True, (want, flags, index))
                self.assertEqual(index_of(want, flags, output), index, (want, flags))

    def test_a_flag_more_may_take_less(self):
        self.assertEqual(beyond("a ...\n", ["ELLIPSIS", "NORMALIZE_WHITESPACE"], "a ...\n", ["ELLIPSIS"]), "a \n")


if __name__ == "__main__":
    unittest.main()
