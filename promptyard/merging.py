"""Machines with as few states as they can have."""

from promptyard.machines import Machine


def merged(machine):
    """Return a machine that takes the same texts, with one state for all that lead alike."""
    groups = alike_states(machine)
    numbers = {}
    firsts = []
    for state, group in enumerate(groups):
        if group not in numbers:
            numbers[group] = len(firsts)
            firsts.append(state)
    small = Machine()
    for state in firsts:
        moves, other = machine.row(state)
        small.put(
            {sign: numbers[groups[to]] for sign, to in moves.items()},
            numbers[groups[other]],
            machine.good[state],
        )
    return small


def alike_states(machine):
    """Return the group of each state, equal for those from which the same texts are taken.

    At first all are in one group. Then those are told apart that differ in whether they
    are good or in the groups to which they lead, until nothing changes; a state is looked
    at again only if one to which it leads has changed its group.
    """
    sources = sources_of(machine)
    groups = [0 for _ in sources]
    members = [list(range(len(sources)))]
    stale = {state: True for state in members[0]}
    while stale:
        touched = {groups[state]: True for state in stale}
        parts = [leaving(machine, groups, members[group], stale) for group in touched]
        stale = {}
        for group, (staying, gone) in zip(list(touched), parts):
            members[group] = staying
            for part in gone:
                for state in part:
                    groups[state] = len(members)
                    stale.update(sources[state])
                members.append(part)
    return groups


def sources_of(machine):
    """Return, for each state, a dict of the states that lead to it."""
    sources = [{} for _ in machine.good]
    for state, other in enumerate(machine.others):
        sources[other][state] = True
        for to in machine.moves[state].values():
            sources[to][state] = True
    return sources


def leaving(machine, groups, states, stale):
    """Return the states of a group that stay in it, and the parts that have to leave it.

    Those that are not stale are alike, so one is looked at for all. The largest part
    stays, as all that lead to the others are looked at again.
    """
    parts = {}
    fresh = None
    for state in states:
        if state in stale:
            sight = sight_of(machine, groups, state)
        else:
            if fresh is None:
                fresh = sight_of(machine, groups, state)
            sight = fresh
        parts.setdefault(sight, []).append(state)
    ordered = sorted(list(parts.values()), key=len, reverse=True)
    return ordered[0], ordered[1:]


def sight_of(machine, groups, state):
    """Return what tells a state apart, while the groups are what they are."""
    moves, other = machine.row(state)
    home = groups[other]
    ways = [(sign, groups[to]) for sign, to in moves.items() if groups[to] != home]
    return machine.good[state], home, tuple(sorted(ways))
