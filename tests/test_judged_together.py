"""[45] over many small texts: what is told of all outputs, held against runs of plays that print them."""

import random
import unittest

from helpers import COMPARING, OTHERS, order, outputs
from promptyard.judging import idle_examples, text_parted
from promptyard.outputs import least_refused
from promptyard.running import Runner, test_of
from promptyard.texts import examples_of

SLOW = [flag for flag in COMPARING + OTHERS if flag != "FAIL_FAST"]

WANTS = [
    "", "1", "a", "a b", "a  b", "a...", "a......", "<BLANKLINE>", "<BLANKLINE>\n...", "<BLANKLINE>\n......\n<BLANKLINE>", "True", "<BLANKLINE> ",
    "a ...", "a...b", "a...\n...b", "1 ", " 1",
]

OUTPUTS = outputs("1a \n", 4) + ["True\n", "False\n", "a b\n", "a\n\nb\n", "a\tb\n", "<BLANKLINE>\n", "a...\n", "<BLANKLINE>\n...\n"]


def small_text(chance, sources):
    """A text with an example for each source."""
    parts = []
    for source in sources:
        words = [chance.choice("+-") + chance.choice(SLOW) for _ in range(chance.choice([0, 0, 1, 2]))]
        directive = " # doctest: " + " ".join(words) if words else ""
        parts.append(f">>> {source}{directive}\n{chance.choice(WANTS)}\n\n")
    return "".join(parts)


def pairs(count, seed):
    """Pairs of texts with the same sources, and flags."""
    chance = random.Random(seed)
    for _ in range(count):
        sources = "abcd"[:chance.randrange(5)]
        one = small_text(chance, sources)
        other = small_text(chance, sources) if chance.random() < 0.7 else one.replace("a...", "a......").replace("a b", "a  b")
        yield one, other, [flag for flag in SLOW if chance.random() < (0.1 if flag == "SKIP" else 0.3)]


def failing(test, play, flags):
    """Whether each example of a test fails."""
    words = Runner(play, flags).run(test)[1]
    return [word in ("failure", "error") for word in words]


def all_printing(output):
    """A play in which each source prints an output."""
    return {source + "\n": [("print", output)] for source in "abcd"}


class Parted(unittest.TestCase):
    def test_against_runs_of_plays_that_print(self):
        alike = 0
        for one, other, flags in pairs(700, 31):
            found = text_parted(one, other, flags)
            self.assertEqual(text_parted(other, one, flags), found)
            alike += found is None
            tests = test_of(one), test_of(other)
            index, output = found or (len(tests[0].examples()), None)
            if found is not None:
                play = {**all_printing("1\n"), tests[0].examples()[index].bare: [("print", output)]}
                self.assertNotEqual(*[failing(test, play, flags)[index] for test in tests])
            for got in OUTPUTS:
                play = all_printing(got)
                told = [mine != its for mine, its in zip(*[failing(test, play, flags) for test in tests])]
                self.assertFalse(any(told[:index]), (one, other, got))
                if output is not None and order(got) < order(output):
                    self.assertFalse(told[index])
        self.assertGreater(alike, 50)

    def test_a_text_and_itself(self):
        for one, _, flags in pairs(300, 32):
            self.assertIsNone(text_parted(one, one, flags))
            self.assertIsNone(text_parted(one, "x\n\n" + one + "y", flags))


class Idle(unittest.TestCase):
    def test_against_least_refused(self):
        numbers = set()
        for one, _, flags in pairs(1500, 33):
            wanted = []
            for index, example in enumerate(examples_of(one)):
                force = [flag for flag in SLOW if example.options.get(flag, flag in flags)]
                if "SKIP" in force or least_refused(example.want, force) is None:
                    wanted.append(index)
            found = idle_examples(one, flags)
            self.assertEqual(found, wanted)
            numbers.update(found)
            for got in OUTPUTS[::40]:
                told = failing(test_of(one), all_printing(got), flags)
                self.assertFalse(any(told[index] for index in found))
        self.assertEqual(numbers, {0, 1, 2, 3})


if __name__ == "__main__":
    unittest.main()
