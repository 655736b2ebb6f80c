"""Tests, and what runs their examples by a play."""

from promptyard.errors import Failed, Unexpected, held
from promptyard.flags import FAIL_FAST, FIRST_FAILURE, in_force, require_flags
from promptyard.outcomes import ERROR, FAILURE, SKIPPED, got_in_all, has_failed, outcome_of
from promptyard.plays import require_play
from promptyard.reports import report_of
from promptyard.tallies import FAILED, counts_of, number_of, summary_of, summed
from promptyard.texts import examples_of
from promptyard.values import held_names, names_copy


class Test:
    """Examples that are run one after another, with names that go on from one to the next."""

    def __init__(self, examples, names=None, name="text", file=None, line=None):
        self._names = held_names(names)
        self._examples = list(examples)
        self.name = name
        self.file = file if file else None
        self.line = line

    def examples(self):
        """Return the list of the examples."""
        return list(self._examples)

    def names(self):
        """Return the names that the test has now."""
        return names_copy(self._names)

    def shown(self):
        """Return a short text that tells of the test."""
        many = number_of(len(self._examples), "example") if self._examples else "no examples"
        return f"<DocTest {self.name} from {self.file}:{self.line} ({many})>"

    def tried(self, example, play, flags):
        """Run an example with the names that the test has now, and return its outcome."""
        return outcome_of(example, play, self._names, flags)

    def forget(self):
        """Take the names away."""
        self._names = {}


def test_of(text, names=None, name="text", file=None, line=None):
    """Return the test of the examples of a text."""
    return Test(examples_of(text), names, name, file, line)


class Runner:
    """What runs tests by a play, and adds up how their examples end."""

    def __init__(self, play, flags=()):
        require_play(play)
        require_flags(flags)
        self._play = held(play)
        self._flags = list(flags)
        self._counts = {}

    def run(self, test, *, verbose=False, clear=True):
        """Run a test, and return its counts, the words of its examples, and the report."""
        words = []
        reports = []
        failed = False
        flags = self._flags
        for example in test.examples():
            # This hangs on the flags as the example ahead has left them.
            quiet = failed and FIRST_FAILURE in flags
            flags = in_force(self._flags, example.options)
            outcome = test.tried(example, self._play, flags)
            words.append(outcome[0])
            if outcome[0] == SKIPPED:
                continue
            failed = failed or has_failed(outcome[0])
            if not quiet:
                reports.append(report_of(test, example, outcome, flags, verbose))
            if failed and FAIL_FAST in flags:
                break
        return self.ended_run(test, words, clear), words, "".join(reports)

    def run_strictly(self, test, *, clear=True):
        """Run a test, and return its counts, or raise at the first example that fails."""
        words = []
        for number, example in enumerate(test.examples()):
            flags = in_force(self._flags, example.options)
            word, got, error = test.tried(example, self._play, flags)
            if word == FAILURE:
                raise Failed(number, got_in_all(got, error))
            if word == ERROR:
                raise Unexpected(number, error)
            words.append(word)
        return self.ended_run(test, words, clear)

    def ended_run(self, test, words, clear):
        """Add up the words of a run that has ended, and return its counts."""
        if clear:
            test.forget()
        counts = counts_of(words)
        self.tally(test.name, counts)
        return counts

    def tally(self, name, counts):
        """Add counts to those of a name."""
        self._counts[name] = summed([self._counts.get(name, (0, 0, 0)), counts])

    def total(self):
        """Return the counts of all runs."""
        return summed(list(self._counts.values()))

    def counts(self):
        """Return the counts by the names of the tests."""
        return {name: self._counts[name] for name in sorted(self._counts)}

    def merge(self, other):
        """Add the counts of another runner, which may be this one."""
        for name, counts in other.counts().items():
            self.tally(name, counts)

    def summary(self, verbose=False):
        """Return the text that sums all runs up."""
        return summary_of(self.counts(), verbose)


def succeeds(play, test, flags=()):
    """Tell whether no example of a test fails, which stays as it is."""
    runner = Runner(play, flags)
    runner.run(Test(test.examples(), test.names()))
    return runner.total()[FAILED] == 0
