"""The least output that is in several languages at once."""

from itertools import combinations

from promptyard.machines import SIGNS, Machine

# What stands for every state from which nothing is taken.
LOST = -1

# A pair of states is kept as one number, which takes less room than a tuple.
WIDTH = 4294967296


class Kept:
    """A machine that knows where all is lost; it has to be one with as few states as it can have."""

    def __init__(self, machine):
        self.good = machine.good
        self.lost = lost_state(machine)
        self.start = self.kept_state(0)
        self.rows = [self.kept_row(machine, state) for state in range(len(machine.good))]

    def kept_row(self, machine, state):
        """Return the row of a state of a machine, with LOST where it leads to the lost one."""
        moves, other = machine.row(state)
        return {sign: self.kept_state(to) for sign, to in moves.items()}, self.kept_state(other)

    def kept_state(self, state):
        """Return the state, or LOST."""
        return LOST if state == self.lost else state

    def row(self, state):
        """Return the moves of a state, and where its other signs lead."""
        return self.rows[state]


class Both:
    """What two machines take alike, as a machine whose states are worked out when asked for."""

    def __init__(self, one, two):
        self.one = one
        self.two = two
        self.start = LOST if LOST in (one.start, two.start) else 0
        self.numbers = {0: 0}
        self.pairs = [0]
        self.good = [one.good[0] and two.good[0]]
        self.rows = {}

    def row(self, state):
        """Return the moves of a state, and where its other signs lead."""
        if state not in self.rows:
            self.rows[state] = self.row_of_pair(self.pairs[state])
        return self.rows[state]

    def row_of_pair(self, pair):
        """Return the row of a pair of states that was not asked for ahead."""
        left, right = divmod(pair, WIDTH)
        left_moves, left_other = self.one.row(left)
        right_moves, right_other = self.two.row(right)
        other = self.number_of(left_other, right_other)
        moves = {}
        for sign in {**left_moves, **right_moves}:
            to = self.number_of(left_moves.get(sign, left_other), right_moves.get(sign, right_other))
            if to != other:
                moves[sign] = to
        return moves, other

    def number_of(self, left, right):
        """Return the number of a pair of states, which may be a new one."""
        if left == LOST or right == LOST:
            return LOST
        pair = left * WIDTH + right
        if pair not in self.numbers:
            self.numbers[pair] = len(self.pairs)
            self.pairs.append(pair)
            self.good.append(self.one.good[left] and self.two.good[right])
        return self.numbers[pair]


def lost_state(machine):
    """Return the state from which nothing is taken, or None."""
    for state, good in enumerate(machine.good):
        moves, other = machine.row(state)
        if not good and not moves and other == state:
            return state
    return None


def least_in(languages):
    """Return the least output that is in all languages, or None."""
    if all([language.empty for language in languages]):
        return ""
    machines = [Kept(language.bodies) for language in languages]
    if len(machines) > 2 and has_strangers(machines):
        return None
    # Two halves, as the pairs of their states cost less than the states of all at once.
    half = (len(machines) + 1) // 2
    body = least_body(joint(machines[:half]), joint(machines[half:]))
    return None if body is None else body + "\n"


def has_strangers(machines):
    """Tell whether two of the machines take nothing alike, which is soon known."""
    return any([least_body(one, two) is None for one, two in combinations(machines, 2)])


def joint(machines):
    """Return the machine of the texts that all machines take."""
    if not machines:
        whole = Machine()
        whole.put({}, 0, True)
        return Kept(whole)
    found = machines[0]
    for machine in machines[1:]:
        found = Both(found, machine)
    return found


def least_body(one, two):
    """Return the least text that two machines take, or None.

    Pairs of states are met in the order of the least texts that lead to them, so the
    first pair that is good is met by the least text of all.
    """
    if LOST in (one.start, two.start):
        return None
    if one.good[0] and two.good[0]:
        return ""
    met = set()
    met.add(0)
    pairs = [0]
    origins = [0]
    signs = [""]
    at = 0
    while at < len(pairs):
        left, right = divmod(pairs[at], WIDTH)
        left_moves, left_other = one.row(left)
        right_moves, right_other = two.row(right)
        for sign in live_signs(left_moves, left_other, right_moves, right_other):
            to_left = left_moves.get(sign, left_other)
            to_right = right_moves.get(sign, right_other)
            pair = to_left * WIDTH + to_right
            if to_left == LOST or to_right == LOST or pair in met:
                continue
            if one.good[to_left] and two.good[to_right]:
                return text_to(origins, signs, at) + sign
            met.add(pair)
            pairs.append(pair)
            origins.append(at)
            signs.append(sign)
        at = at + 1
    return None


def live_signs(left_moves, left_other, right_moves, right_other):
    """Return the signs that may lead on, in ascending order, the least one for all unheeded ones."""
    if left_other == LOST:
        return sorted(left_moves)
    if right_other == LOST:
        return sorted(right_moves)
    heeded = {**left_moves, **right_moves}
    for sign in SIGNS:
        if sign not in heeded:
            return sorted([sign, *heeded])
    return sorted(heeded)


def text_to(origins, signs, at):
    """Return the text by which the pair with a number was met first."""
    found = []
    while at > 0:
        found.append(signs[at])
        at = origins[at]
    return "".join(reversed(found))
