"""[30], [33] and [34] beside Python's own doctest, where it is the same: real sources, and plays that tell what they do."""

import contextlib
import doctest
import io
import itertools
import random
import sys
import unittest
from unittest import mock

from helpers import COMPARING, OTHERS
from promptyard.running import Runner, test_of

FLAGS = COMPARING + OTHERS

# Real sources, and what they do.
SOURCES = {
    "print('a')": [("print", "a\n")],
    "print('a  b\\n\\nc')": [("print", "a  b\n\nc\n")],
    "print(True)": [("print", "True\n")],
    "print('1', end='')": [("print", "1")],
    "pass": [],
    "x = 1": [("set", "x", 1)],
    "x": [("show", "x")],
    "x = y": [("copy", "x", "y")],
    "del x": [("delete", "x")],
    "y = [1, 'a']": [("set", "y", [1, "a"])],
    "raise ValueError('a: b')": [("raise", "ValueError", "a: b")],
    "print('a'); raise KeyError": [("print", "a\n"), ("raise", "KeyError", "")],
    "for n in 'ab':\n    print(n)\n": [("print", "a\nb\n")],
}
PLAY = {source.removesuffix("\n") + "\n": act for source, act in SOURCES.items()}

TRACE = "Traceback (most recent call last):\n    ...\n"

WANTS = [
    "", "a\n", "a  b\n<BLANKLINE>\nc\n", "a b\n<BLANKLINE>\nc\n", "1\n", "True\n", "[1, 'a']\n", "a...\n", "a\nb\n",
    TRACE + "ValueError: a: b\n", TRACE + "ValueError: c\n", TRACE + "KeyError\n", "Traceback (innermost last):\nNameError: name 'x' is not defined\n",
    TRACE + "NameError: ...\n",
]


def written(chance):
    """An example of a text, with a directive perhaps."""
    lines = chance.choice(list(SOURCES)).split("\n")
    if lines[-1] == "":
        lines.pop()
    if chance.random() < 0.4:
        words = [chance.choice("+-") + chance.choice(FLAGS) for _ in range(chance.randrange(1, 4))]
        at = 0 if len(lines) > 1 else -1
        lines[at] += "  # doctest: " + ", ".join(words)
    source = "\n".join(("... " if at else ">>> ") + line for at, line in enumerate(lines))
    return f"{source}\n{chance.choice(WANTS)}"


def small_texts(count, seed):
    """Texts with some examples, with flags."""
    chance = random.Random(seed)
    for _ in range(count):
        parts = [written(chance) + chance.choice(["", "\n", "\na\n"]) for _ in range(chance.randrange(5))]
        yield "".join(parts), [flag for flag in FLAGS if chance.random() < 0.15]


def traceback_of(told):
    """What stands for a traceback of Python's, with points in the place of its stack."""
    kind, error, _ = told
    text = str(error)
    return f"{TRACE}{kind.__name__}: {text}\n" if text else f"{TRACE}{kind.__name__}\n"


def python_run(text, flags, verbose, place):
    """What Python's doctest finds: how many failed, how many were tried and not skipped, the report and the summary."""
    bits = 0
    for flag in flags:
        bits |= doctest.OPTIONFLAGS_BY_NAME[flag]
    name, file, line = place
    runner = doctest.DocTestRunner(verbose=verbose, optionflags=bits)
    test = doctest.DocTestParser().get_doctest(text, {}, name, file, line)
    parts = []
    with mock.patch.object(doctest, "_exception_traceback", traceback_of):
        found = runner.run(test, out=parts.append)
    told = io.StringIO()
    with contextlib.redirect_stdout(told):
        runner.summarize(verbose)
    skipped = getattr(found, "skipped", 0)
    return found.failed, found.attempted - skipped, "".join(parts), told.getvalue()


class Runs(unittest.TestCase):
    def test_counts_and_reports(self):
        places = itertools.cycle([("a.b", "c", 0), ("a", None, 4), ("text", "d e", 12), ("t", "f", None)])
        for (text, flags), place in zip(small_texts(3000, 11), places):
            for verbose in (False, True):
                failed, tried, report, summary = python_run(text, flags, verbose, place)
                runner = Runner(PLAY, flags)
                counts, words, found = runner.run(test_of(text, None, *place), verbose=verbose)
                self.assertEqual((counts[0], counts[1] - counts[2]), (failed, tried), text)
                self.assertEqual(found, report, text)
                if sys.version_info >= (3, 13):
                    self.assertEqual(runner.summary(verbose), summary)


if __name__ == "__main__":
    unittest.main()
