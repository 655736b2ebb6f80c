"""[33] and [34]: what runs report, sign by sign, and their summaries."""

import unittest

from promptyard.running import Runner, Test, test_of
from promptyard.texts import Example

STARS = "*" * 70 + "\n"
ERROR = "Traceback (most recent call last):\n    ...\n"
FIRST = "REPORT_ONLY_FIRST_FAILURE"

PLAY = {
    "one\n": [("print", "1\n")],
    "nothing\n": [],
    "blank\n": [("print", "a\n\n  \n\t\nb")],
    "for a in b:\n    print(a)\n": [("print", "1\n2\n")],
    "fall\n": [("print", "ahead\n"), ("raise", "ValueError", "bad")],
    "deep\n": [("raise", "a.E", "b\n\n  c\n")],
}


def report(rows, flags=(), verbose=False, name="text", file=None, line=None):
    """The report of a run of examples."""
    return Runner(PLAY, flags).run(Test(rows, None, name, file, line), verbose=verbose)[2]


def failed(source, told, place="Line 1, in text"):
    """What is reported of an example of one line that has failed."""
    return f"{STARS}{place}\nFailed example:\n    {source}\n{told}"


class Failures(unittest.TestCase):
    def test_nothing_is_reported_of_those_that_are_well_or_skipped(self):
        self.assertEqual(report([Example("one", "1"), Example("one", "2", options={"SKIP": True})]), "")
        self.assertEqual(report([]), "")

    def test_a_failure(self):
        self.assertEqual(report([Example("one", "2")]), failed("one", "Expected:\n    2\nGot:\n    1\n"))
        self.assertEqual(report([Example("one", "")]), failed("one", "Expected nothing\nGot:\n    1\n"))
        self.assertEqual(report([Example("nothing", "1")]), failed("nothing", "Expected:\n    1\nGot nothing\n"))

    def test_places(self):
        for line, file, number, place in (
            (None, None, 1, "Line 1, in n.m"), (4, None, 5, "Line 5, in n.m"), (4, "", 5, "Line 5, in n.m"),
            (None, "a b.txt", 7, 'File "a b.txt", line ?, in n.m'), (0, "f", 7, 'File "f", line 7, in n.m'),
            (12, "f", 7, 'File "f", line 19, in n.m'),
        ):
            found = report([Example("one", "2", line=number)], name="n.m", file=file, line=line)
            self.assertEqual(found, failed("one", "Expected:\n    2\nGot:\n    1\n", place))
        test = test_of("a\n\n\t>>> # b\n\t>>> one\n\t2\n", None, "n", "f", 10)
        self.assertEqual(Runner(PLAY).run(test)[2], failed("one", "Expected:\n    2\nGot:\n    1\n", 'File "f", line 14, in n'))

    def test_sources_of_several_lines(self):
        source = "for a in b: # doctest: -SKIP\n    print(a)\n"
        shown = "    for a in b: # doctest: -SKIP\n        print(a)\n"
        self.assertEqual(
            report([Example(source, "1")]),
            f"{STARS}Line 1, in text\nFailed example:\n{shown}Expected:\n    1\nGot:\n    1\n    2\n",
        )
        self.assertEqual(
            report([Example("a\n\nb", "")]),
            f"{STARS}Line 1, in text\nFailed example:\n    a\n\n    b\nException raised:\n"
            "    Traceback (most recent call last):\n        ...\n    SyntaxError: invalid syntax\n",
        )

    def test_blank_lines(self):
        marked = "Got:\n    a\n    <BLANKLINE>\n    <BLANKLINE>\n    \t\n    b\n"
        self.assertEqual(report([Example("blank", "a\n\nb")]), failed("blank", "Expected:\n    a\n\n    b\n" + marked))
        plain = "Got:\n    a\n\n      \n    \t\n    b\n"
        for flags, options in ((["DONT_ACCEPT_BLANKLINE"], {}), ([], {"DONT_ACCEPT_BLANKLINE": True})):
            self.assertEqual(report([Example("blank", "a", options=options)], flags), failed("blank", "Expected:\n    a\n" + plain))
        options = {"DONT_ACCEPT_BLANKLINE": False}
        self.assertEqual(report([Example("blank", "a", options=options)], ["DONT_ACCEPT_BLANKLINE"]), failed("blank", "Expected:\n    a\n" + marked))

    def test_an_error(self):
        told = "Exception raised:\n    Traceback (most recent call last):\n        ...\n    ValueError: bad\n"
        self.assertEqual(report([Example("fall", "ahead")]), failed("fall", told))
        self.assertEqual(report([Example("fall", ERROR + "ValueError: bad")]), failed("fall", told))
        told = "Exception raised:\n    Traceback (most recent call last):\n        ...\n    a.E: b\n\n      c\n\n"
        self.assertEqual(report([Example("deep")]), failed("deep", told))

    def test_an_error_that_is_another_one(self):
        text = f">>> fall\n{ERROR}ValueError: good\n"
        self.assertEqual(
            Runner(PLAY).run(test_of(text))[2],
            failed("fall", "Expected:\n    Traceback (most recent call last):\n        ...\n    ValueError: good\n"
                   "Got:\n    ahead\n    Traceback (most recent call last):\n        ...\n    ValueError: bad\n"),
        )
        self.assertEqual(
            report([Example("deep", "", error="E")]),
            failed("deep", "Expected nothing\nGot:\n    Traceback (most recent call last):\n        ...\n    a.E: b\n    <BLANKLINE>\n      c\n    <BLANKLINE>\n"),
        )

    def test_one_behind_another(self):
        rows = [Example("one", "2"), Example("one", "1"), Example("one", "3", line=5)]
        self.assertEqual(
            report(rows),
            failed("one", "Expected:\n    2\nGot:\n    1\n") + failed("one", "Expected:\n    3\nGot:\n    1\n", "Line 5, in text"),
        )


class Verbosely(unittest.TestCase):
    def test_those_that_are_well(self):
        self.assertEqual(report([Example("one", "1")], verbose=True), "Trying:\n    one\nExpecting:\n    1\nok\n")
        self.assertEqual(report([Example("nothing", "")], verbose=True), "Trying:\n    nothing\nExpecting nothing\nok\n")
        found = report([Example("for a in b:\n    print(a) # doctest: +SKIP", "1\n2")], verbose=True)
        self.assertEqual(found, "Trying:\n    for a in b:\n        print(a) # doctest: +SKIP\nExpecting:\n    1\n    2\nok\n")

    def test_those_that_have_failed(self):
        start = "Trying:\n    one\nExpecting:\n    2\n    \n    <BLANKLINE>\n".replace("    \n", "\n")
        told = "Expected:\n    2\n\n    <BLANKLINE>\nGot:\n    1\n"
        self.assertEqual(report([Example("one", "2\n\n<BLANKLINE>")], verbose=True), start + failed("one", told))
        told = "Exception raised:\n    Traceback (most recent call last):\n        ...\n    ValueError: bad\n"
        self.assertEqual(report([Example("fall")], verbose=True), "Trying:\n    fall\nExpecting nothing\n" + failed("fall", told))

    def test_skipped_ones_are_not_reported(self):
        rows = [Example("one", "1", options={"SKIP": True}), Example("nothing")]
        self.assertEqual(report(rows, verbose=True), "Trying:\n    nothing\nExpecting nothing\nok\n")

    def test_words_and_counts_are_the_same(self):
        rows = [Example("one", "1"), Example("one", "2"), Example("fall"), Example("x", options={"SKIP": True})]
        for flags in ([], [FIRST], ["FAIL_FAST"]):
            quick = Runner(PLAY, flags).run(Test(rows))
            self.assertEqual(Runner(PLAY, flags).run(Test(rows), verbose=True)[:2], quick[:2])


class Quiet(unittest.TestCase):
    wrong = failed("one", "Expected:\n    2\nGot:\n    1\n")
    fall = failed("fall", "Exception raised:\n    Traceback (most recent call last):\n        ...\n    ValueError: bad\n")

    def test_only_the_first_that_fails_is_reported(self):
        rows = [Example("one", "1"), Example("fall"), Example("one", "2"), Example("one", "1"), Example("fall")]
        self.assertEqual(report(rows, [FIRST]), self.fall)
        self.assertEqual(report(rows, [FIRST], True), "Trying:\n    one\nExpecting:\n    1\nok\nTrying:\n    fall\nExpecting nothing\n" + self.fall)
        self.assertEqual(report(rows), self.fall + self.wrong + self.fall)
        self.assertEqual(Runner(PLAY, [FIRST]).run(Test(rows))[1], ["success", "error", "failure", "success", "error"])

    def test_flags_count_as_the_example_ahead_has_left_them(self):
        on = {FIRST: True}
        off = {FIRST: False}
        # The option of the second one counts for the third one alone.
        rows = [Example("one", "2"), Example("fall", options=on), Example("one", "2"), Example("fall")]
        self.assertEqual(report(rows), self.wrong + self.fall + self.fall)
        rows = [Example("one", "2"), Example("fall", options=off), Example("one", "2"), Example("fall")]
        self.assertEqual(report(rows, [FIRST]), self.wrong + self.wrong)
        # The flags of the runner count for the first one, but nothing has failed ahead of it.
        self.assertEqual(report([Example("one", "2", options=on), Example("fall")]), self.wrong)

    def test_a_skipped_one_leaves_flags_too(self):
        rows = [Example("one", "2"), Example("one", options={"SKIP": True, FIRST: True}), Example("fall"), Example("fall")]
        self.assertEqual(report(rows), self.wrong + self.fall)
        rows = [Example("one", "2"), Example("one", options={"SKIP": True, FIRST: False}), Example("fall"), Example("fall")]
        self.assertEqual(report(rows, [FIRST]), self.wrong + self.fall)
        rows = [Example("fall", options={"SKIP": True}), Example("one", "2"), Example("fall")]
        self.assertEqual(report(rows, [FIRST]), self.wrong)

    def test_those_that_are_well_are_quiet_too(self):
        rows = [Example("one", "2", options={FIRST: True}), Example("one", "1"), Example("nothing")]
        start = "Trying:\n    one\nExpecting:\n    2\n"
        self.assertEqual(report(rows, verbose=True), start + self.wrong + "Trying:\n    nothing\nExpecting nothing\nok\n")

    def test_a_run_ahead_does_not_count(self):
        runner = Runner(PLAY, [FIRST])
        for _ in range(2):
            self.assertEqual(runner.run(Test([Example("one", "2"), Example("fall")]))[2], self.wrong)

    def test_with_fail_fast(self):
        rows = [Example("one", "2", options={"FAIL_FAST": False}), Example("fall"), Example("fall")]
        self.assertEqual(report(rows, [FIRST, "FAIL_FAST"]), self.wrong)
        self.assertEqual(Runner(PLAY, [FIRST, "FAIL_FAST"]).run(Test(rows))[0], (2, 2, 0))


def runner_of(items):
    """A runner with items: how many failed, were well and were skipped under names."""
    runner = Runner(PLAY)
    for name, (bad, well, skipped) in items.items():
        rows = [Example("one", "2")] * bad + [Example("one", "1")] * well + [Example("one", options={"SKIP": True})] * skipped
        runner.run(Test(rows, None, name))
    return runner


class Summaries(unittest.TestCase):
    def both(self, items, brief, verbose):
        runner = runner_of(items)
        self.assertEqual(runner.summary(), brief)
        self.assertEqual(runner.summary(False), brief)
        self.assertEqual(runner.summary(True), verbose)
        self.assertEqual(runner.summary(verbose=True), verbose)

    def test_no_runs(self):
        self.both({}, "", "0 tests in 0 items.\n0 passed.\nTest passed.\n")

    def test_nothing_tried(self):
        self.both({"a": (0, 0, 0)}, "", "1 item had no tests:\n    a\n0 tests in 1 item.\n0 passed.\nTest passed.\n")
        self.both(
            {"b": (0, 0, 0), "a.c": (0, 0, 0)}, "",
            "2 items had no tests:\n    a.c\n    b\n0 tests in 2 items.\n0 passed.\nTest passed.\n",
        )

    def test_all_passed(self):
        self.both({"a": (0, 1, 0)}, "", "1 item passed all tests:\n   1 test in a\n1 test in 1 item.\n1 passed.\nTest passed.\n")
        self.both(
            {"b": (0, 12, 0), "a": (0, 1, 0), "c": (0, 100, 0)}, "",
            "3 items passed all tests:\n   1 test in a\n  12 tests in b\n 100 tests in c\n113 tests in 3 items.\n113 passed.\nTest passed.\n",
        )
        self.both({"a": (0, 1000, 0)}, "", "1 item passed all tests:\n 1000 tests in a\n1000 tests in 1 item.\n1000 passed.\nTest passed.\n")

    def test_skipped_ones_count_as_passed(self):
        self.both({"a": (0, 0, 1)}, "", "1 item passed all tests:\n   1 test in a\n1 test in 1 item.\n1 passed.\nTest passed.\n")
        self.both({"a": (0, 2, 3)}, "", "1 item passed all tests:\n   5 tests in a\n5 tests in 1 item.\n5 passed.\nTest passed.\n")

    def test_one_failed(self):
        brief = STARS + "1 item had failures:\n   1 of   1 in a\n"
        last = "***Test Failed*** 1 failure.\n"
        self.both({"a": (1, 0, 0)}, brief + last, brief + "1 test in 1 item.\n0 passed and 1 failed.\n" + last)

    def test_many_failed(self):
        brief = STARS + "2 items had failures:\n   2 of   3 in a\n  10 of 120 in b\n"
        last = "***Test Failed*** 12 failures.\n"
        self.both({"b": (10, 110, 0), "a": (2, 1, 0)}, brief + last, brief + "123 tests in 2 items.\n111 passed and 12 failed.\n" + last)

    def test_failed_and_skipped(self):
        brief = STARS + "1 item had failures:\n   1 of   2 in a\n"
        last = "***Test Failed*** 1 failure and 1 skipped test.\n"
        self.both({"a": (1, 0, 1)}, brief + last, brief + "2 tests in 1 item.\n1 passed and 1 failed.\n" + last)
        brief = STARS + "1 item had failures:\n   2 of   2 in a\n"
        last = "***Test Failed*** 2 failures and 3 skipped tests.\n"
        passed = "1 item passed all tests:\n   3 tests in b\n"
        self.both({"a": (2, 0, 0), "b": (0, 0, 3)}, brief + last, passed + brief + "5 tests in 2 items.\n3 passed and 2 failed.\n" + last)

    def test_items_of_all_sorts(self):
        items = {"f": (1, 0, 1), "e": (0, 0, 0), "d": (0, 1, 0), "c": (0, 2, 0), "b": (3, 1, 0), "a": (0, 0, 0)}
        failures = STARS + "2 items had failures:\n   3 of   4 in b\n   1 of   2 in f\n"
        last = "***Test Failed*** 4 failures and 1 skipped test.\n"
        ahead = "2 items had no tests:\n    a\n    e\n2 items passed all tests:\n   2 tests in c\n   1 test in d\n"
        self.both(items, failures + last, ahead + failures + "9 tests in 6 items.\n5 passed and 4 failed.\n" + last)

    def test_an_item_of_several_runs(self):
        runner = runner_of({"a": (0, 1, 0)})
        runner.merge(runner_of({"a": (1, 0, 0), "b": (0, 0, 0)}))
        self.assertEqual(runner.summary(), STARS + "1 item had failures:\n   1 of   2 in a\n***Test Failed*** 1 failure.\n")
        runner.run(Test([Example("one", "1")], None, "b"))
        self.assertIn("1 item passed all tests:\n   1 test in b\n", runner.summary(True))

    def test_names_are_in_ascending_order(self):
        names = ["b", "B", "a.b", "a", "_", "a b", "aa", ""]
        runner = runner_of({name: (0, 0, 0) for name in names})
        self.assertEqual(runner.summary(True).split("\n")[1:9], ["    " + name for name in sorted(names)])


if __name__ == "__main__":
    unittest.main()
