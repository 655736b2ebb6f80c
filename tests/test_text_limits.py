"""[5]: texts, plays and values at their limits."""

import unittest

from promptyard.errors import BadText
from promptyard.plays import acted, is_play
from promptyard.scripts import script_of
from promptyard.texts import Comment, Example, error_of, examples_of, joined, levelled, parsed

# Forty examples in 1,600 characters: each one has 40.
BLOCKS = [f">>> facts({number:02d}) # doctest:+SKIP\n... #\n{number:02d}\n\n" for number in range(40)]
FORTY = "".join(BLOCKS)


class Texts(unittest.TestCase):
    def test_forty_examples(self):
        self.assertEqual(len(FORTY), 1600)
        pieces = parsed(FORTY)
        self.assertEqual(pieces[1::2], ["\n"] * 40)
        self.assertEqual(pieces[::2], [
            Example(f"facts({number:02d}) # doctest:+SKIP\n#", f"{number:02d}", line=4 * number + 1, options={"SKIP": True})
            for number in range(40)
        ])
        self.assertEqual({example.bare for example in pieces[::2]}, {f"facts({number:02d})\n#\n" for number in range(40)})
        self.assertEqual(examples_of(FORTY), pieces[::2])
        self.assertEqual(joined(pieces), FORTY)
        script = "#\n".join(f"facts({number:02d}) # doctest:+SKIP\n#\n# Expected:\n## {number:02d}\n" for number in range(40))
        self.assertEqual(script_of(FORTY), script)

    def test_the_last_of_forty_is_wrong(self):
        for block, line, reason, found in (
            (">>>f", 157, "blank", ">>>"), (">>> f\n...g", 158, "blank", "..."), (">>> f\n    ... g", 158, "indent", "    ... g"),
            (">>> f #doctest:x", 157, "option", "x"), (">>> #doctest:+SKIP", 157, "no example", "#doctest:+SKIP\n"),
        ):
            with self.assertRaises(BadText) as caught:
                parsed("".join(BLOCKS[:39]) + block)
            error = caught.exception
            self.assertEqual((error.line, error.reason, error.found), (line, reason, found))

    def test_forty_at_growing_indents(self):
        rows = [" " * (indent // 2) + line for indent in range(40) for line in (">>> abc", "1")]
        text = "\n".join(rows)
        examples = examples_of(text)
        self.assertEqual([example.indent for example in examples], [indent // 2 for indent in range(40)])
        self.assertEqual([example.line for example in examples], list(range(1, 80, 2)))
        deep = "\n".join("\t" + row for row in rows)
        self.assertLessEqual(len(deep), 1600)
        self.assertEqual(levelled(deep), text)
        self.assertEqual(parsed(deep), parsed(text))

    def test_texts_of_one_sign(self):
        for sign in " a.#>":
            text = sign * 1600
            self.assertEqual(levelled(text), text)
            self.assertEqual(levelled("x\n" + text), "x\n" + text)
        self.assertEqual(levelled("\t" * 1600), " " * 12800)
        self.assertEqual(levelled("a\n" + "\t" * 1597 + "b"), "a\n" + " " * 12776 + "b")
        self.assertEqual(parsed("\n" * 1600), ["\n" * 1600])
        self.assertEqual(script_of("\n" * 1600), "\n")

    def test_long_lines_and_many_lines(self):
        self.assertEqual(parsed(">>> " + "x" * 1596), [Example("x" * 1596)])
        self.assertEqual(parsed(">>> x" + "\n..." * 398), [Example("x" + "\n" * 399)])
        self.assertEqual(parsed(">>>" + "\n..." * 399), [Comment("\n" * 400)])
        self.assertEqual(parsed(">>> x" + "\n1" * 797), [Example("x", "1\n" * 797)])

    def test_many_signs_that_may_begin_a_directive(self):
        self.assertEqual(Example("#" * 1600).bare, "#" * 1600 + "\n")
        self.assertEqual(Example("#" * 1591 + "doctest:").bare, "#" * 1590 + "\n")
        self.assertEqual(Example("# " * 790 + "# doctest: '").bare, "# " * 790 + "# doctest: '\n")
        self.assertEqual(Example("# doctest:" * 160).bare, "\n")
        with self.assertRaises(BadText) as caught:
            parsed(">>> x # doctest:" + "+SKIP,-SKIP " * 131 + "#")
        self.assertEqual(caught.exception.found, "#")
        self.assertEqual(parsed(">>> x # doctest:" + "+SKIP,-SKIP " * 132)[0].options, {"SKIP": False})

    def test_what_was_returned_may_be_passed_again(self):
        wide = levelled("\t\t\ta\n\t>>> b\n\t\t... c\n".replace("\t\t...", "\t...") * 90)
        self.assertGreater(len(wide), 2500)
        self.assertEqual(levelled(wide), wide)
        self.assertEqual(joined(parsed(wide)), wide)
        again = script_of(wide)
        self.assertEqual(len(parsed(again)), 1)

    def test_long_tracebacks(self):
        want = "Traceback (most recent call last):" + " " * 500 + "\n" + "  x\n" * 200 + "A: " + "y" * 200
        self.assertEqual(error_of(want), "A: " + "y" * 200)


class Plays(unittest.TestCase):
    def test_acts_of_fifty_deeds(self):
        deeds = [("set", "a", 0)] + [deed for number in range(1, 25) for deed in (("set", "a", number), ("show", "a"))] + [("raise", "A", "b")]
        self.assertEqual(len(deeds), 50)
        printed = "".join(f"{number}\n" for number in range(1, 25))
        self.assertEqual(acted({"x": deeds}, "x"), (printed, ("A", "b"), {"a": 24}))
        chain = [("set", "n0", "v")] + [("copy", f"n{number}", f"n{number - 1}") for number in range(1, 49)] + [("show", "n48")]
        self.assertEqual(acted({"x": chain}, "x"), ("'v'\n", None, {f"n{number}": "v" for number in range(49)}))

    def test_plays_of_a_hundred_sources(self):
        play = {f"f({number})\n": [("print", "p" * 1600)] * 50 for number in range(100)}
        self.assertIs(is_play(play), True)
        self.assertEqual(acted(play, "f(99)\n"), ("p" * 80000, None, {}))
        self.assertIs(is_play({**play, "g\n": [("print", "p")] * 49 + [("print", 1)]}), False)

    def test_lists_two_deep_with_a_hundred_things(self):
        rows = [[number] * 9 for number in range(10)]
        self.assertEqual(sum(map(len, rows)) + len(rows), 100)
        names = {f"name_{number}": rows for number in range(40)}
        shown = acted({"x": [("copy", "n", "name_7"), ("show", "n"), ("set", "m", tuple(rows))]}, "x", names)
        self.assertEqual(shown, (repr(rows) + "\n", None, {**names, "n": rows, "m": rows}))
        self.assertIs(is_play({"x": [("set", "n", [[0] * 99])]}), True)
        self.assertIs(is_play({"x": [("set", "n", [[0] * 98 + [{}]])]}), False)

    def test_long_numbers_and_texts(self):
        number = 10 ** 30 - 1
        self.assertEqual(acted({"x": [("set", "n", -number), ("show", "n")]}, "x")[0], "-" + "9" * 30 + "\n")
        self.assertEqual(acted({"x": [("set", "n", "\n" * 1600), ("show", "n")]}, "x")[0], "'" + "\\n" * 1600 + "'\n")

    def test_any_objects_six_deep(self):
        for sound, deep in ((True, []), (False, {})):
            for _ in range(3):
                deep = [deep, (1, None)]
            self.assertIs(is_play({"x": [("set", "n", deep)]}), sound)
        deep = {}
        for _ in range(6):
            deep = {"x": [deep]}
        self.assertIs(is_play(deep), False)


if __name__ == "__main__":
    unittest.main()
