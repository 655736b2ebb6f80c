"""Machines that read a text sign by sign and tell whether it is taken.

A machine heeds few signs in each of its states; all others lead to one and the same
state, so what it costs does not grow with the number of signs that there are.
"""

# The signs of a text, in the order of their codes.
SIGNS = (
    "\t\n !\"#$&'()*+,-./0123456789:;<=>?@ABCDEFGHIJKLMNOPQRSTUVWXYZ"
    "[\\]^_`abcdefghijklmnopqrstuvwxyz{|}~"
)

# Where a reader of lines stands: at the beginning of one, in one that has had nothing but
# blanks so far, or in one that has had something else.
AHEAD = 0
BLANK = 1
INSIDE = 2

# Where a reader of words stands: ahead of the first one, in one, or behind one.
NO_WORD = 0
WORD = 1
GAP = 2


class Machine:
    """A machine with states from 0, where it starts, on.

    moves[state] holds the signs that the state heeds and the states to which they lead,
    others[state] the state to which all other signs lead, and good[state] tells whether
    a text that ends there is taken.
    """

    def __init__(self):
        self.moves = []
        self.others = []
        self.good = []

    def put(self, moves, other, good):
        """Put one more state behind the ones that are there."""
        self.moves.append({sign: moves[sign] for sign in moves if moves[sign] != other})
        self.others.append(other)
        self.good.append(good)

    def after(self, state, sign):
        """Return the state to which a sign leads."""
        return self.moves[state].get(sign, self.others[state])

    def row(self, state):
        """Return the moves of a state, and where its other signs lead."""
        return self.moves[state], self.others[state]


def built(start, look):
    """Return the machine of all states that can be reached from start.

    look(state) returns the moves of a state, where its other signs lead, and whether it
    is good; its states are numbers or tuples of numbers.
    """
    machine = Machine()
    numbers = {start: 0}
    states = [start]
    while len(machine.good) < len(states):
        moves, other, good = look(states[len(machine.good)])
        for state in [other] + list(moves.values()):
            if state not in numbers:
                numbers[state] = len(states)
                states.append(state)
        machine.put({sign: numbers[moves[sign]] for sign in moves}, numbers[other], good)
    return machine


def literal(text):
    """Return the machine that takes one text alone."""
    machine = Machine()
    lost = len(text) + 1
    for at, sign in enumerate(text):
        machine.put({sign: at + 1}, lost, False)
    machine.put({}, lost, True)
    machine.put({}, lost, False)
    return machine


def sought(piece):
    """Return, for 0 to all signs of a piece that have been met, which signs lead how far.

    All other signs lead back to 0. Behind the whole piece the search goes on.
    """
    rows = []
    border = 0
    for at, sign in enumerate(piece):
        row = dict(rows[border]) if at else {}
        row[sign] = at + 1
        rows.append(row)
        border = rows[border].get(sign, 0) if at else 0
    rows.append(dict(rows[border]) if piece else {})
    return rows


def in_order(pieces):
    """Return the machine of the texts that have two or more pieces in order.

    The first piece stands at the beginning, the last one at the end. It is enough to take
    each of the others where it is met first, since then most is left for those behind.
    """
    first, *inner, last = pieces
    base = len(first)
    lost = sum([len(piece) for piece in pieces]) + 1
    machine = Machine()
    for at, sign in enumerate(first):
        machine.put({sign: at + 1}, lost, False)
    for piece in inner:
        for row in sought(piece)[:-1]:
            machine.put({sign: base + row[sign] for sign in row}, base, False)
        base = base + len(piece)
    for at, row in enumerate(sought(last)):
        machine.put({sign: base + row[sign] for sign in row}, base, at == len(last))
    machine.put({}, lost, False)
    return machine


def either(one, two):
    """Return the machine of the texts that one or the other machine takes."""

    def look(state):
        left, right = state
        signs = {**one.moves[left], **two.moves[right]}
        moves = {sign: (one.after(left, sign), two.after(right, sign)) for sign in signs}
        return moves, (one.others[left], two.others[right]), one.good[left] or two.good[right]

    return built((0, 0), look)


def under_lines(machine):
    """Return the machine of the texts that are taken once their blank lines are emptied.

    Of a line of blanks it is not known whether they count. So a state has two of the
    machine: the one without these blanks and the one with them.
    """

    def look(state):
        place, bare, full = state
        moves = {sign: (INSIDE, to, to) for sign, to in machine.moves[full].items()}
        if place != INSIDE:
            for sign in " \t":
                moves[sign] = (BLANK, bare, machine.after(full, sign))
        fed = machine.after(bare, "\n")
        moves["\n"] = (AHEAD, fed, fed)
        other = machine.others[full]
        return moves, (INSIDE, other, other), machine.good[bare]

    return built((AHEAD, 0, 0), look)


def under_words(machine):
    """Return the machine of the texts whose words, with one space between, are taken."""

    def look(state):
        place, held = state
        begun = machine.after(held, " ") if place == GAP else held
        moves = {sign: (WORD, to) for sign, to in machine.moves[begun].items()}
        for sign in " \t\n":
            moves[sign] = (NO_WORD if place == NO_WORD else GAP, held)
        return moves, (WORD, machine.others[begun]), machine.good[held]

    return built((NO_WORD, 0), look)
