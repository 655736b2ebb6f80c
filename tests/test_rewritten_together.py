"""[42] and [44] over many small texts: rewritten texts, least options and directives held against runs."""

import itertools
import random
import unittest

from helpers import COMPARING, OTHERS
from promptyard.errors import BadOutput, BadText
from promptyard.flags import in_force
from promptyard.outcomes import outcome_of, word_of
from promptyard.plays import traceback_text
from promptyard.rewriting import directed, least_options, rewritten
from promptyard.running import Runner, Test, test_of
from promptyard.texts import Comment, Example, examples_of, levelled, parsed

FLAGS = COMPARING + OTHERS
CHOICES = COMPARING + ("IGNORE_EXCEPTION_DETAIL",)

# Lines that are mostly right one behind another.
LINES = [
    ">>> a", ">>> b", ">>> a # doctest: +ELLIPSIS", "  >>> b # doctest: -NORMALIZE_WHITESPACE,+FAIL_FAST", "  \t>>> a", "\t>>> b\t", "\t... c", "... c",
    ">>> # d", ">>> a # doctest: +SKIP", ">>> put", ">>> x", "1", "\t1", "        a...", "a  b", "  <BLANKLINE>", "<BLANKLINE>", "", " \t", "e",
    "Traceback (most recent call last):", "E: f", "        E: f...", "True",
]

OUTPUTS = [
    "", "1\n", "a", "True\n", "a\n\nb\n", " \t\n", "<BLANKLINE>\n", "<BLANKLINE>\n\n", "a\tb\n", "a b", ">>> b\n", "a\n  >>> b\n1\n", "...\n", " ... a\nb\n",
    "a\n...\n", "\t...", "a...b\n", "Traceback (most recent call last):\nE: f\n", "  a\n", ">>>a\n", "... # doctest: +x\n", "\n1\n", ">>> # c\n",
]

ERRORS = [("E", "f"), ("e.E", "g\n\nh"), ("E", "f\tg"), ("E", ""), ("E", ">>> b\n>>> b"), ("E", "\n>>> b"), ("E", "f\n<BLANKLINE>\n\n")]


def small_act(chance):
    """A small act that prints, raises, or both."""
    deeds = [("print", chance.choice(OUTPUTS))] if chance.random() < 0.9 else []
    return deeds + ([("raise", *chance.choice(ERRORS))] if chance.random() < 0.25 else [])


def cases(count, seed):
    """Texts that can be read, with plays, names and flags."""
    chance = random.Random(seed)
    while count:
        lines = chance.choices(LINES, k=chance.randrange(1, 7))
        text = "\n".join(lines) + chance.choice(["", "\n"])
        try:
            if not examples_of(text):
                continue
        except BadText:
            continue
        sources = {example.bare for example in examples_of(text)}
        play = {source: small_act(chance) for source in sorted(sources) if chance.random() < 0.95}
        play["put\n"] = [("set", "x", chance.choice([1, "a\n", [2], None]))]
        play["x\n"] = [("show", "x")]
        flags = [flag for flag in FLAGS if chance.random() < (0.05 if flag == "SKIP" else 0.25)]
        yield text, play, chance.choice([None, {}, {"x": "a  b"}]), flags
        count -= 1


def slow(flags):
    """Flags without FAIL_FAST."""
    return [flag for flag in flags if flag != "FAIL_FAST"]


def without_haste(example):
    """An example without an option for FAIL_FAST."""
    options = {flag: told for flag, told in example.options.items() if flag != "FAIL_FAST"}
    return Example(example.source, example.want, error=example.error, line=example.line, indent=example.indent, options=options)


def words_of(text, play, names, flags):
    """The words of the examples of a text, FAIL_FAST counting for nothing."""
    return Runner(play, slow(flags)).run(Test([without_haste(example) for example in examples_of(text)], names))[1]


def read_again(text, play, names, flags):
    """What rewritten returns, or the index that it raises, by reading whole texts again and again."""
    names = dict(names or {})
    outcomes = []
    for example in examples_of(text):
        force = in_force(flags, example.options)
        outcomes.append((example, force, outcome_of(example, play, names, force)))
    shift = 0
    for index, (example, force, (word, got, error)) in enumerate(outcomes):
        if word not in ("failure", "error"):
            continue
        rows = text.split("\n")
        start = example.line - 1 + shift
        middle = start + example.source.count("\n")
        many = example.want.count("\n")
        prompt = rows[start].expandtabs(8)
        ahead = prompt[:len(prompt) - len(prompt.lstrip(" "))]
        told = traceback_text(error) if error else got
        new = [ahead + (line if line.strip(" \t") else "<BLANKLINE>") for line in told.split("\n")[:-1]]
        behind = rows[middle + many:]
        text = "\n".join(rows[:middle] + new + (behind or [""]))
        try:
            again = examples_of(text)[index]
        except (BadText, IndexError):
            return index
        # Tabs go up to columns of the whole line, so what is asked is how the new lines stand in the levelled text.
        lines = levelled(text).split("\n")[middle:middle + len(new)]
        wanted = "".join(line[again.indent:] + "\n" for line in lines)
        if (again.line - 1 + again.source.count("\n"), again.want) != (middle, wanted) or word_of(again, got, error, force) != "success":
            return index
        shift += len(new) - many
    return text


def found(text, play, names, flags):
    """What rewritten returns, or the index that it raises."""
    try:
        return rewritten(text, play, names, flags)
    except BadOutput as error:
        return error.index


class Rewritten(unittest.TestCase):
    def test_all_pass_and_all_stays(self):
        for text, play, names, flags in cases(4000, 21):
            anew = found(text, play, names, flags)
            if isinstance(anew, int):
                continue
            words = words_of(text, play, names, flags)
            again = words_of(anew, play, names, flags)
            self.assertEqual(again, [word if word == "skipped" else "success" for word in words], text)
            self.assertEqual(rewritten(anew, play, names, flags), anew)
            runner = Runner(play, flags)
            self.assertEqual(runner.run(test_of(anew, names))[1], again)
            if {"failure", "error"}.isdisjoint(words):
                self.assertEqual(anew, text)
            self.same_pieces(parsed(text), parsed(anew), words)

    def same_pieces(self, pieces, others, words):
        words = iter(words)
        shift = 0
        self.assertEqual(len(pieces), len(others))
        for piece, other in zip(pieces, others):
            self.assertIs(type(piece), type(other))
            if isinstance(piece, str):
                self.assertEqual(piece, other)
                continue
            self.assertEqual((piece.source, piece.indent, piece.line + shift), (other.source, other.indent, other.line))
            if isinstance(piece, Comment) or next(words) in ("success", "skipped"):
                self.assertEqual(piece.want, other.want)
            if isinstance(piece, Example):
                self.assertEqual((piece.options, piece.bare), (other.options, other.bare))
            shift += other.want.count("\n") - piece.want.count("\n")

    def test_whole_texts_are_read_again(self):
        numbers = set()
        for text, play, names, flags in cases(8000, 22):
            anew = found(text, play, names, flags)
            self.assertEqual(anew, read_again(text, play, names, flags), (text, play, flags))
            numbers.add(anew if isinstance(anew, int) else "text")
        self.assertEqual(numbers & {0, 1, 2, "text"}, {0, 1, 2, "text"})


def sets_in_order(words):
    """All sets of option words, from the least one on."""
    every = [chosen for size in range(len(words) + 1) for chosen in itertools.combinations(sorted(words), size)]
    return sorted(every, key=lambda chosen: (len(chosen), chosen))


# Wants, and what is told for them: each is let by with some sets of flags, or with none.
CLOSE = [
    ("a b\n", "a  b\n"), ("a...\n", "abc\n"), ("a ...\n", "a \n"), ("a b...\n", "a  bc\n"), ("1\n", "True\n"), ("a\n<BLANKLINE>\nb\n", "a\n\nb\n"),
    ("a\n<BLANKLINE>\nb\n", "a\n \n  b\n"), ("<BLANKLINE>\na ...\n", "\na \n"), ("<BLANKLINE>\n...b\n", "\n a\tb\n"), ("a\n", "b\n"), ("a\n", "a"),
    ("a...b c\n<BLANKLINE>\n", "a\nb  c\n\n"), ("1\n", "1"), ("a ...\n<BLANKLINE>\n", "a \n\t\n"), ("", " \n"), ("0\n", "False\n"),
]
CLOSE_ERRORS = ["E: f\n", "e.E: f\n", "E : g\n", "E: f  g\n", "E: ...\n", "e.E: f...\n", "F\n", "e...: f  g\n", "E\n"]


def close_cases(count, seed):
    """Texts whose examples pass, or would with other flags, with plays and flags."""
    chance = random.Random(seed)
    for _ in range(count):
        text = ""
        play = {}
        for source in "abc"[:chance.randrange(1, 4)]:
            words = [chance.choice("+-") + chance.choice(CHOICES) for _ in range(chance.choice([0, 0, 1, 2]))]
            want, told = chance.choice(CLOSE)
            play[source + "\n"] = [("print", told)]
            if chance.random() < 0.3:
                want = "Traceback (most recent call last):\n" + chance.choice(CLOSE_ERRORS)
                play[source + "\n"].append(("raise", chance.choice(["E", "e.E"]), chance.choice(["f", "f  g", "", "f g"])))
            text += f">>> {source}" + (" # doctest: " + " ".join(words) if words else "") + "\n" + want + "\n"
        yield text, play, None, [flag for flag in FLAGS if chance.random() < (0.05 if flag == "SKIP" else 0.4)]


class LeastOptions(unittest.TestCase):
    def test_they_are_the_first_of_all_sets(self):
        kinds = set()
        for text, play, names, flags in [*cases(150, 23), *close_cases(1000, 27)]:
            examples = examples_of(text)
            least = least_options(text, play, names, flags)
            words = words_of(text, play, names, flags)
            self.assertEqual(len(least), len(examples))
            for index, (example, told, word) in enumerate(zip(examples, least, words)):
                if word in ("success", "skipped"):
                    self.assertEqual(told, ())
                    continue
                force = in_force(flags, example.options)
                every = sets_in_order([("-" if flag in force else "+") + flag for flag in CHOICES])
                self.assertEqual(len(every), 32)
                passing = None
                for chosen in every:
                    put = [None] * len(examples)
                    put[index] = chosen
                    if words_of(directed(text, put), play, names, flags)[index] == "success":
                        passing = chosen
                        break
                self.assertEqual(told, passing, (text, play, flags))
                kinds.add(told)
        self.assertIn(None, kinds)
        self.assertGreater(len(kinds), 12)

    def test_texts_that_are_directed_by_them_pass(self):
        directed_ones = 0
        for text, play, names, flags in [*cases(500, 24), *close_cases(3000, 28)]:
            least = least_options(text, play, names, flags)
            if None in least:
                continue
            words = words_of(text, play, names, flags)
            anew = directed(text, least)
            self.assertEqual(words_of(anew, play, names, flags), [word if word == "skipped" else "success" for word in words])
            self.assertEqual(least_options(anew, play, names, flags), [()] * len(words))
            directed_ones += anew != text
        self.assertGreater(directed_ones, 1000)


class Directed(unittest.TestCase):
    def test_options_are_added_and_nothing_else_is_changed(self):
        chance = random.Random(25)
        for text, _, _, _ in cases(3000, 26):
            examples = examples_of(text)
            words = [chance.choice([None, [], [chance.choice("+-") + chance.choice(FLAGS) for _ in range(3)]]) for _ in examples]
            anew = directed(text, words)
            rows, others = text.split("\n"), anew.split("\n")
            self.assertEqual(len(rows), len(others))
            self.assertTrue(all(other.startswith(row) for row, other in zip(rows, others)))
            self.assertEqual(sum(row != other for row, other in zip(rows, others)), sum(map(bool, words)))
            for example, other, told in zip(examples, examples_of(anew), words):
                options = {**example.options, **{word[1:]: word[0] == "+" for word in told or ()}}
                self.assertEqual(
                    (other.bare, other.want, other.error, other.line, other.indent, other.options),
                    (example.bare, example.want, example.error, example.line, example.indent, options),
                )
                self.assertEqual(other.source == example.source, not told)


if __name__ == "__main__":
    unittest.main()
