"""The outputs that an expected text takes, as a whole.

An output is empty, or it is a BODY, any text, with a line feed behind it. So the outputs
that are taken are known by whether the empty one is, and by a machine of the bodies.
"""

from promptyard.flags import ELLIPSIS, NORMALIZE, NO_BLANKLINE, ONE_IS_NOT_TRUE
from promptyard.machines import SIGNS, Machine, either, in_order, literal, under_lines, under_words
from promptyard.merging import merged
from promptyard.stages import DOTS, TRUTHS, marks_emptied, words_joined


class Language:
    """A set of outputs: whether the empty one is in it, and the machine of the bodies."""

    def __init__(self, empty, bodies):
        self.empty = empty
        self.bodies = bodies


def all_outputs():
    """Return the language of all outputs."""
    bodies = Machine()
    bodies.put({}, 0, True)
    return Language(True, bodies)


def taken_by(want, flags):
    """Return the language of the outputs that check lets by."""
    machine = literal(want)
    if ONE_IS_NOT_TRUE not in flags and want in TRUTHS:
        machine = either(machine, literal(TRUTHS[want]))
    shown = want if NO_BLANKLINE in flags else marks_emptied(want)
    by_dots = ELLIPSIS in flags
    if NO_BLANKLINE not in flags:
        machine = either(machine, under_lines(compared(shown, by_dots and NORMALIZE not in flags)))
    elif by_dots and NORMALIZE not in flags:
        machine = either(machine, compared(shown, True))
    if NORMALIZE in flags:
        machine = either(machine, under_words(compared(words_joined(shown), by_dots)))
    return Language(machine.good[0], merged(before_feed(machine)))


def compared(want, by_dots):
    """Return the machine of the texts that equal want, or have its pieces if by_dots."""
    if by_dots and DOTS in want:
        return either(literal(want), in_order(want.split(DOTS)))
    return literal(want)


def before_feed(machine):
    """Return the machine of the bodies: what it takes once a line feed stands behind.

    Signs that no text has are left out, as nothing may be found by them.
    """
    bodies = Machine()
    for state, other in enumerate(machine.others):
        moves = {sign: to for sign, to in machine.moves[state].items() if sign in SIGNS}
        bodies.put(moves, other, machine.good[machine.after(state, "\n")])
    return bodies


def refused_by(language):
    """Return the language of all other outputs."""
    bodies = Machine()
    for state, good in enumerate(language.bodies.good):
        moves, other = language.bodies.row(state)
        bodies.put(moves, other, not good)
    return Language(not language.empty, bodies)
