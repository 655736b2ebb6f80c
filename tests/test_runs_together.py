"""[35] over many small tests: runs apart, together and merged, and how they hang together."""

import itertools
import random
import unittest

from helpers import COMPARING, OTHERS
from promptyard.errors import Failed, Unexpected
from promptyard.running import Runner, Test, succeeds
from promptyard.texts import Example

FLAGS = COMPARING + OTHERS
FIRST = "REPORT_ONLY_FIRST_FAILURE"

# Sources that neither look at names nor change any, and such as do.
STILL = {
    "one\n": [("print", "1")], "true\n": [("print", "True\n")], "none\n": [], "wide\n": [("print", "a  b\n\n")],
    "fall\n": [("print", "a"), ("raise", "a.E", "b")], "fall bare\n": [("raise", "E", "")],
}
MOVING = {
    "x\n": [("show", "x")], "put\n": [("set", "x", 1)], "drop\n": [("delete", "x")], "both\n": [("set", "x", True), ("show", "x"), ("show", "y")],
}
PLAY = {**STILL, **MOVING}

WANTS = ["", "1", "True", "a...", "a b\n<BLANKLINE>", "a  b\n\n"]
ERRORS = [None, None, None, "a.E: b", "E", "a.E: ...", "NameError: name 'y' is not defined"]


def small_example(chance, play, options=FLAGS):
    """An example whose source is in a play, or perhaps not."""
    told = {flag: chance.random() < 0.6 for flag in options if chance.random() < 0.12}
    source = chance.choice([*play, "other\n"])
    return Example(source, chance.choice(WANTS), error=chance.choice(ERRORS), line=chance.randrange(1, 9), options=told)


def small_tests(count, play, options=FLAGS, seed=0):
    """Lists of examples with flags and names, one after another."""
    chance = random.Random(seed)
    for _ in range(count):
        examples = [small_example(chance, play, options) for _ in range(chance.randrange(6))]
        flags = [flag for flag in FLAGS if chance.random() < 0.2]
        names = chance.choice([None, {}, {"x": 1}, {"x": 1, "y": [None]}])
        yield examples, flags, names


def is_bad(word):
    """Whether a word is that of an example that has failed."""
    return word in ("failure", "error")


def run(examples, flags, names, **more):
    """What a new runner returns for a new test."""
    return Runner(PLAY, flags).run(Test(examples, names), **more)


class Runs(unittest.TestCase):
    def test_counts_are_those_of_the_words(self):
        for examples, flags, names in small_tests(2500, PLAY):
            counts, words, report = run(examples, flags, names)
            self.assertEqual(counts, (sum(map(is_bad, words)), len(words), words.count("skipped")))
            self.assertLessEqual(set(words), {"success", "failure", "error", "skipped"})
            self.assertLessEqual(report.count("Failed example:\n"), counts[0])
            self.assertEqual(report == "", counts[0] == 0)
            self.assertIs(succeeds(PLAY, Test(examples, names), flags), counts[0] == 0)

    def test_whether_it_is_verbose_changes_no_word(self):
        for examples, flags, names in small_tests(1500, PLAY, seed=1):
            brief = Test(examples, names)
            told = Test(examples, names)
            one = Runner(PLAY, flags).run(brief, clear=False)
            two = Runner(PLAY, flags).run(told, verbose=True, clear=False)
            self.assertEqual(one[:2], two[:2])
            self.assertEqual(brief.names(), told.names())

    def test_sums(self):
        cases = list(small_tests(1200, PLAY, seed=2))
        for many in zip(*[iter(cases)] * 4):
            runners = [Runner(PLAY, many[0][1]), Runner(PLAY, many[1][1])]
            found = []
            for number, (examples, _, names) in enumerate(many):
                found.append(runners[number % 2].run(Test(examples, names, "abca"[number])))
            sums = [tuple(map(sum, zip(*[counts for counts, _, _ in found[place::2]]))) for place in (0, 1)]
            for runner, counts in zip(runners, sums):
                self.assertEqual(runner.total(), counts)
                self.assertEqual(tuple(map(sum, zip(*runner.counts().values()))), counts)
            runners[0].merge(runners[1])
            self.assertEqual(runners[0].total(), tuple(map(sum, zip(*sums))))
            self.assertEqual(runners[0].counts()["a"], tuple(map(sum, zip(found[0][0], found[3][0]))))
            together = Runner(PLAY)
            for runner in (runners[0], runners[1], runners[0]):
                together.merge(runner)
            self.assertEqual(together.total(), tuple(2 * one + two for one, two in zip(runners[0].total(), runners[1].total())))

    def test_what_was_run_ahead_with_other_names_changes_nothing(self):
        cases = list(small_tests(1000, PLAY, seed=3))
        for (examples, flags, names), (before, _, others) in itertools.pairwise(cases):
            runner = Runner(PLAY, flags)
            runner.run(Test(before, others), clear=False)
            self.assertEqual(runner.run(Test(examples, names)), run(examples, flags, names))

    def test_a_word_hangs_on_nothing_that_stands_ahead(self):
        slow = [flag for flag in FLAGS if flag != "FAIL_FAST"]
        for examples, flags, names in small_tests(1500, STILL, slow, seed=4):
            flags = [flag for flag in flags if flag in slow]
            alone = [run([example], flags, names)[1][0] for example in examples]
            self.assertEqual(run(examples, flags, names)[1], alone)
            self.assertEqual(run(examples[::-1], flags, names)[1], alone[::-1])

    def test_by_names_alone(self):
        slow = [flag for flag in FLAGS if flag != "FAIL_FAST"]
        for examples, flags, names in small_tests(1500, PLAY, slow, seed=5):
            flags = [flag for flag in flags if flag in slow]
            test = Test([], names)
            words = []
            for example in examples:
                test = Test([example], test.names())
                words += Runner(PLAY, flags).run(test, clear=False)[1]
            self.assertEqual(run(examples, flags, names)[1], words)

    def test_fail_fast(self):
        for examples, flags, names in small_tests(2500, PLAY, seed=6):
            slow = [Example(one.source, one.want, error=one.error, options={**one.options, "FAIL_FAST": False}) for one in examples]
            words = run(slow, flags, names)[1]
            at = 0
            failed = False
            for example, word in zip(examples, words):
                at += 1
                failed = failed or is_bad(word)
                if failed and word != "skipped" and example.options.get("FAIL_FAST", "FAIL_FAST" in flags):
                    break
            self.assertEqual(run(examples, flags, names)[1], words[:at])

    def test_only_the_first_failure_is_reported(self):
        for examples, flags, names in small_tests(1500, PLAY, (), seed=7):
            words = run(examples, flags, names)[1]
            first = next((at for at, word in enumerate(words) if is_bad(word)), len(words))
            for verbose in (True, False):
                report = run(examples, [FIRST, *flags], names, verbose=verbose)[2]
                self.assertEqual(report.count("Failed example:\n"), min(1, len(words) - first))
                self.assertEqual(report, run(examples[:first + 1], flags, names, verbose=verbose)[2])

    def test_reports_are_those_of_the_examples_one_behind_another(self):
        slow = [flag for flag in FLAGS if flag not in ("FAIL_FAST", FIRST)]
        for examples, flags, names in small_tests(800, STILL, slow, seed=8):
            flags = [flag for flag in flags if flag in slow]
            for verbose in (True, False):
                reports = [run([example], flags, names, verbose=verbose)[2] for example in examples]
                self.assertEqual(run(examples, flags, names, verbose=verbose)[2], "".join(reports))

    def test_strict_runs(self):
        for examples, flags, names in small_tests(2500, PLAY, seed=9):
            counts, words, _ = run(examples, flags, names)
            runner = Runner(PLAY, flags)
            strict = Test(examples, names)
            try:
                self.assertEqual(runner.run_strictly(strict), counts)
                self.assertEqual((counts[0], runner.total(), strict.names()), (0, counts, {}))
            except (Failed, Unexpected) as error:
                self.assertEqual(isinstance(error, Unexpected), words[error.number] == "error")
                self.assertEqual(list(map(is_bad, words[:error.number + 1])), [False] * error.number + [True])
                self.assertEqual(runner.counts(), {})
                part = Test(examples[:error.number + 1], names)
                Runner(PLAY, flags).run(part, clear=False)
                self.assertEqual(strict.names(), part.names())


if __name__ == "__main__":
    unittest.main()
