"""Expected texts judged for all outputs: the least ones, the least that part two, and how many."""

from promptyard.checker import lets_by
from promptyard.counting import number_in, output_at, place_of
from promptyard.errors import BadIndex, BadLength, NotTaken
from promptyard.flags import require_flags
from promptyard.languages import refused_by, taken_by
from promptyard.machines import SIGNS
from promptyard.searching import least_in
from promptyard.values import is_count

# An output with an index has at most so many signs.
MOST_SIGNS = 60


def is_output(text):
    """Tell whether a text is empty or ends with a line feed, and has no signs but those of texts."""
    return (not text or text.endswith("\n")) and all([sign in SIGNS for sign in text])


def lesser(one, two):
    """Return the lesser one of two outputs, each of which may be None."""
    if one is None or two is None:
        return two if one is None else one
    return min([one, two], key=lambda output: (len(output), output))


def least_taken(want, flags=()):
    """Return the least output that is taken, or None."""
    require_flags(flags)
    return least_in([taken_by(want, flags)])


def least_refused(want, flags=()):
    """Return the least output that is not taken, or None."""
    require_flags(flags)
    return least_in([refused_by(taken_by(want, flags))])


def parted(want, flags, other, other_flags):
    """Return the least output that one of two wants alone takes, or None."""
    require_flags(flags)
    require_flags(other_flags)
    return least_between(taken_by(want, flags), taken_by(other, other_flags))


def least_between(one, two):
    """Return the least output that is in one of two languages alone, or None."""
    return lesser(least_in([one, refused_by(two)]), least_in([refused_by(one), two]))


def is_alike(want, flags, other, other_flags):
    """Tell whether two wants take the same outputs."""
    return parted(want, flags, other, other_flags) is None


def beyond(want, flags, other, other_flags):
    """Return the least output that the other want takes and the first one does not, or None."""
    require_flags(flags)
    require_flags(other_flags)
    return least_in([refused_by(taken_by(want, flags)), taken_by(other, other_flags)])


def shared(want, flags, other, other_flags):
    """Return the least output that both wants take, or None."""
    require_flags(flags)
    require_flags(other_flags)
    return least_in([taken_by(want, flags), taken_by(other, other_flags)])


def least_with(taken, refused):
    """Return the least output that all pairs of taken take and none of refused does, or None."""
    for _, flags in [*taken, *refused]:
        require_flags(flags)
    wanted = [taken_by(want, flags) for want, flags in taken]
    unwanted = [refused_by(taken_by(want, flags)) for want, flags in refused]
    return least_in(wanted + unwanted)


def alike_groups(pairs):
    """Return the groups of the places of the pairs that take the same outputs."""
    for _, flags in pairs:
        require_flags(flags)
    languages = [taken_by(want, flags) for want, flags in pairs]
    groups = {}
    for place in range(len(languages)):
        groups.setdefault(first_alike(languages, place), []).append(place)
    return list(groups.values())


def first_alike(languages, place):
    """Return the first place of a language that is alike to the one of a place."""
    for first in range(place):
        if least_between(languages[first], languages[place]) is None:
            return first
    return place


def number_taken(want, flags, length):
    """Return how many outputs of a length are taken."""
    require_flags(flags)
    if not is_count(length):
        raise BadLength(length)
    return number_in(taken_by(want, flags), length)


def nth_taken(want, flags, index):
    """Return the output that is taken and has index others that are taken ahead of it."""
    require_flags(flags)
    output = output_at(taken_by(want, flags), index, MOST_SIGNS) if is_count(index) else None
    if output is None:
        raise BadIndex(index)
    return output


def index_of(want, flags, got):
    """Return how many outputs that are taken stand ahead of one that is."""
    require_flags(flags)
    if not is_output(got) or not lets_by(want, got, flags):
        raise NotTaken()
    return place_of(taken_by(want, flags), got)
