"""[5]: tests, plays, modules and rewritten texts at their limits."""

import unittest

from promptyard.errors import BadKey, BadModule, BadOutput, Failed
from promptyard.finding import find_tests, is_module, tested
from promptyard.judging import idle_examples, text_parted
from promptyard.rewriting import directed, least_options, rewritten
from promptyard.running import Runner, Test, succeeds, test_of
from promptyard.texts import Example, examples_of

# A hundred sources with fifty deeds each, half of which put names with lists of a hundred things.
GREAT = {
    f"f({number})\n": [deed for at in range(25) for deed in (("set", f"n{number}_{at}", [[at] * 33] * 3), ("print", f"{at}\n"))]
    for number in range(100)
}
PRINTED = "".join(f"{at}\n" for at in range(25))

# Forty examples in 1,600 characters: each one has 40.
FORTY = "".join(f">>> f({number:02d}) #\n{'x' * 26}\n\n" for number in range(40))


class Tests(unittest.TestCase):
    def test_four_hundred_examples(self):
        examples = [Example(f"f({number % 100})", PRINTED if number % 3 else "no", line=number + 1) for number in range(400)]
        test = Test(examples, None, "n", "f", 1000)
        self.assertEqual(test.shown(), "<DocTest n from f:1000 (400 examples)>")
        runner = Runner(GREAT)
        counts, words, report = runner.run(test, clear=False)
        self.assertEqual(counts, (134, 400, 0))
        self.assertEqual(words, ["success" if number % 3 else "failure" for number in range(400)])
        self.assertEqual(report.count("*" * 70 + '\nFile "f", line '), 134)
        self.assertTrue(report.endswith("\n    24\n"))
        self.assertEqual(len(test.names()), 2500)
        self.assertIs(succeeds(GREAT, test), False)
        self.assertIs(succeeds(GREAT, Test([example for example in examples if example.want != "no\n"])), True)
        self.assertEqual(runner.run(test, verbose=True)[2].count("Trying:\n"), 400)
        self.assertEqual(runner.total(), (268, 800, 0))
        self.assertEqual(runner.summary().split("\n")[1:3], ["1 item had failures:", " 268 of 800 in n"])

    def test_the_last_of_four_hundred_fails(self):
        examples = [Example(f"f({number % 100})", PRINTED) for number in range(399)] + [Example("g")]
        self.assertEqual(Runner(GREAT, ["FAIL_FAST"]).run(Test(examples))[0], (1, 400, 0))
        with self.assertRaises(Failed) as caught:
            Runner({**GREAT, "g\n": [("print", "1")]}).run_strictly(Test(examples))
        self.assertEqual((caught.exception.number, caught.exception.got), (399, "1\n"))

    def test_four_hundred_runs_of_one_name_each(self):
        runner = Runner({})
        for number in range(400):
            runner.run(Test([Example("a")] * (number % 2), None, f"n{number:03d}"))
        self.assertEqual(runner.total(), (200, 200, 0))
        self.assertEqual(list(runner.counts()), [f"n{number:03d}" for number in range(400)])
        for _ in range(100):
            runner.merge(runner)
        self.assertEqual(runner.total(), (200 * 2 ** 100,) * 2 + (0,))

    def test_forty_examples_of_a_text(self):
        self.assertEqual(len(FORTY), 1600)
        test = test_of(FORTY)
        self.assertEqual(test.shown(), "<DocTest text from None:None (40 examples)>")
        self.assertEqual(Runner({}, ["SKIP"]).run(test)[0], (0, 40, 40))


class Texts(unittest.TestCase):
    def test_rewritten(self):
        play = {f"f({number:02d}) #\n": [("print", f"{number}\n" * 40)] * 50 for number in range(40)}
        found = rewritten(FORTY, play)
        self.assertEqual(found, "".join(f">>> f({number:02d}) #\n" + f"{number}\n" * 2000 + "\n" for number in range(40)))
        self.assertEqual(rewritten(found, play), found)
        self.assertEqual(Runner(play).run(test_of(found))[0], (0, 40, 0))
        with self.assertRaises(BadOutput) as caught:
            rewritten(FORTY, {**play, "f(39) #\n": [("print", "1\n"), ("print", ">>> a\n")]})
        self.assertEqual(caught.exception.index, 39)

    def test_least_options(self):
        play = {f"f({number:02d}) #\n": [("print", " x " * 30)] * 50 for number in range(40)}
        text = FORTY.replace("x" * 26, "x ... x")
        self.assertEqual(least_options(text, play), [("+ELLIPSIS", "+NORMALIZE_WHITESPACE")] * 40)
        anew = directed(text, [("+ELLIPSIS", "+NORMALIZE_WHITESPACE")] * 40)
        self.assertEqual(least_options(anew, play), [()] * 40)
        self.assertEqual(least_options(text.replace("x ... x", "y"), play), [None] * 40)

    def test_wide_indents(self):
        text = "\t" * 100 + ">>> a\n" + "b\n"
        self.assertEqual(rewritten("\t" * 1500 + ">>> a\n", {"a\n": [("print", "1\n")]}), "\t" * 1500 + ">>> a\n" + " " * 12000 + "1\n")
        self.assertEqual(directed("\t" * 1500 + ">>> a\n", [["+SKIP"]]), "\t" * 1500 + ">>> a  # doctest: +SKIP\n")
        self.assertEqual(len(examples_of(text[:-2])), 1)

    def test_parted_and_idle(self):
        want = "x" + "...ab" * 19
        one = "".join(f">>> a{number:02d}\n{want}\n" for number in range(15))
        other = one.replace("...ab...", "......ab...")
        self.assertLessEqual(len(one), 1600)
        flags = ["ELLIPSIS", "NORMALIZE_WHITESPACE"]
        self.assertIsNone(text_parted(one, other, flags))
        index, output = text_parted(one, other[:-1] + ".\n", flags)
        self.assertEqual((index, output), (14, "x" + "ab" * 19 + "\n"))
        self.assertEqual(idle_examples(one, flags), [])
        idle = "".join(f">>> a\n<BLANKLINE>\n{'...' * 27}\n" for _ in range(15))
        self.assertEqual(idle_examples(idle, flags), list(range(15)))
        self.assertIsNone(text_parted(one, one))

    def test_forty_examples_parted(self):
        self.assertIsNone(text_parted(FORTY, FORTY.replace("x" * 26, "x" * 26 + " "), ["NORMALIZE_WHITESPACE"]))
        self.assertEqual(text_parted(FORTY, FORTY[:-2] + "y\n\n"), (39, "x" * 26 + "\n"))
        self.assertEqual(idle_examples(FORTY), [])
        self.assertEqual(idle_examples(FORTY, ["SKIP"]), list(range(40)))


def members(depth, count):
    """Members three deep: each class has as many as there are."""
    if depth == 0:
        return {f"f{number}": {"sort": "static", "doc": f">>> f({number})\n{PRINTED}", "line": number} for number in range(count)}
    return {f"C{number}": {"sort": "class", "doc": ">>> a", "members": members(depth - 1, count)} for number in range(count)}


class Modules(unittest.TestCase):
    def test_forty_members_three_deep(self):
        rows = {f"f{number}": {"sort": "function", "doc": f">>> f({number})\n{PRINTED}"} for number in range(36)}
        deep = {"C": {"sort": "class", "members": {"D": {"sort": "class", "members": {"p": {"sort": "property", "doc": ">>> f(0)"}}}}}}
        module = {"name": "m", "names": {"n": [[0] * 99]}, "members": {**rows, **deep}}
        self.assertEqual(len(find_tests(module)), 37)
        self.assertEqual(tested(module, GREAT)[0], (1, 37, 0))

    def test_forty_members_in_each(self):
        module = {"name": "m", "doc": ">>> a", "names": {"n": [[0] * 99]}, "members": members(2, 12)}
        tests = find_tests(module)
        self.assertEqual(len(tests), 1 + 12 + 144 + 1728)
        names = [test.name for test in tests]
        self.assertEqual(names, sorted(names))
        counts, _, summary = tested(module, GREAT)
        self.assertEqual(counts, (157, 1885, 0))
        self.assertTrue(summary.endswith("***Test Failed*** 157 failures.\n"))

    def test_forty_things_under_keys(self):
        things = {f"k{number}": {"sort": "class", "members": members(0, 40), "mark": number} for number in range(40)}
        self.assertEqual(len(find_tests({"name": "m", "tests": things})), 1600)
        self.assertEqual(len(find_tests({"name": "m", "tests": things}, recurse=False)), 0)
        same = {key: {**thing, "mark": "same"} for key, thing in things.items()}
        self.assertEqual(len(find_tests({"name": "m", "tests": same}, exclude_empty=False)), 42)
        with self.assertRaises(BadKey) as caught:
            find_tests({"name": "m", "tests": {**things, "last": {"sort": "value"}}})
        self.assertEqual(caught.exception.key, "last")

    def test_the_deepest_of_many_is_wrong(self):
        deep = members(2, 10)
        self.assertIs(is_module({"name": "m", "members": deep}), True)
        deep["C9"]["members"]["C9"]["members"]["f9"]["line"] = -1
        self.assertIs(is_module({"name": "m", "members": deep}), False)
        with self.assertRaises(BadModule):
            tested({"name": "m", "members": deep}, {})

    def test_long_names(self):
        name = "n" * 20
        module = {"name": name * 80, "file": "f" * 1600, "members": {name: {"sort": "function", "doc": ">>> a", "line": 10 ** 30 - 2, "mark": 10 ** 30 - 1}}}
        (test,) = find_tests(module)
        self.assertEqual((test.name, test.file, test.line), (name * 80 + "." + name, "f" * 1600, 10 ** 30 - 2))
        self.assertIn(f'line {10 ** 30 - 1}, in {name}', Runner({}).run(test)[2])


if __name__ == "__main__":
    unittest.main()
