"""Texts of examples judged for all outputs."""

from promptyard.errors import BadSources
from promptyard.flags import SKIP, in_force, require_flags
from promptyard.languages import all_outputs, refused_by, taken_by
from promptyard.outputs import least_between
from promptyard.searching import least_in
from promptyard.texts import examples_of


def text_parted(one, other, flags=()):
    """Return the first index at which some output succeeds in one text alone, and the least one, or None."""
    examples = examples_of(one)
    others = examples_of(other)
    require_flags(flags)
    require_same_sources(examples, others)
    for index, (example, beside) in enumerate(zip(examples, others)):
        if is_told_apart(example, beside, flags):
            output = least_between(succeeding(example, flags), succeeding(beside, flags))
            if output is not None:
                return index, output
    return None


def require_same_sources(examples, others):
    """Raise BadSources for the first index at which there are not two examples with one bare source."""
    sources = [example.bare for example in examples]
    beside = [example.bare for example in others]
    for index in range(max(len(sources), len(beside))):
        if sources[index:index + 1] != beside[index:index + 1]:
            raise BadSources(index)


def is_told_apart(example, other, flags):
    """Tell whether something in two examples may let other outputs succeed, which is soon known."""
    return example.want != other.want or in_force(flags, example.options) != in_force(flags, other.options)


def succeeding(example, flags):
    """Return the language of the outputs that an example lets succeed."""
    now = in_force(flags, example.options)
    return all_outputs() if SKIP in now else taken_by(example.want, now)


def idle_examples(text, flags=()):
    """Return the indices of the examples that all outputs let succeed."""
    require_flags(flags)
    examples = examples_of(text)
    return [index for index, example in enumerate(examples) if is_idle(example, flags)]


def is_idle(example, flags):
    """Tell whether an example lets all outputs succeed."""
    return least_in([refused_by(succeeding(example, flags))]) is None
