"""How many outputs a language has, and which place each of them has."""

from promptyard.machines import SIGNS


def counts_up_to(machine, length):
    """Return, for 0 to length signs, how many texts of so many a machine takes from each state."""
    counts = [[1 if good else 0 for good in machine.good]]
    for _ in range(length):
        ahead = counts[-1]
        counts.append([count_from(machine, state, ahead) for state in range(len(ahead))])
    return counts


def count_from(machine, state, ahead):
    """Return how many texts a machine takes from a state, ahead telling those behind one sign."""
    moves, other = machine.row(state)
    return sum([ahead[to] for to in moves.values()]) + (len(SIGNS) - len(moves)) * ahead[other]


def number_in(language, length):
    """Return how many outputs of a length a language has."""
    if length == 0:
        return 1 if language.empty else 0
    return counts_up_to(language.bodies, length - 1)[-1][0]


def output_at(language, index, most):
    """Return the output of a language that has so many ahead of it, or None.

    None is returned, too, if it has more than most signs.
    """
    if language.empty:
        if index == 0:
            return ""
        index = index - 1
    counts = counts_up_to(language.bodies, most - 1)
    for length, count in enumerate(counts):
        if index < count[0]:
            return body_at(language.bodies, counts[:length], index) + "\n"
        index = index - count[0]
    return None


def body_at(machine, counts, index):
    """Return the text among those of one length that has so many ahead of it."""
    state = 0
    signs = []
    for count in reversed(counts):
        for sign in SIGNS:
            to = machine.after(state, sign)
            if index < count[to]:
                signs.append(sign)
                state = to
                break
            index = index - count[to]
    return "".join(signs)


def place_of(language, output):
    """Return how many outputs of a language stand ahead of one of them."""
    if not output:
        return 0
    machine = language.bodies
    counts = counts_up_to(machine, len(output) - 1)
    place = sum([count[0] for count in counts[:-1]]) + (1 if language.empty else 0)
    state = 0
    for sign, count in zip(output[:-1], list(reversed(counts[:-1]))):
        place = place + sum([count[machine.after(state, less)] for less in SIGNS if less < sign])
        state = machine.after(state, sign)
    return place
