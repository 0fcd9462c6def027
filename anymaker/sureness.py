"""What has to be set ahead of a piece: memories that are as sure as others, and the least sure ones."""

from anymaker.befores import harmless_for, judge_names, judge_piece, judge_terms
from anymaker.errors import BadMemory
from anymaker.forms import SIZES, is_memory


def as_sure(terms, one, other):
    """Whether a memory is as sure as another one by the fills of terms."""
    judge_terms(terms)
    for memory in (one, other):
        if not isinstance(memory, tuple) or not 1 <= len(memory) <= 3:
            raise BadMemory("no tuple of 1 to 3 items")
        if not is_memory(memory, len(memory), SIZES[terms[3]]):
            raise BadMemory("no worths of the width")
    if len(one) != len(other):
        raise BadMemory("memories of unlike length")
    return is_as_sure(surer_items(terms), one, other)


def is_as_sure(surer, one, other):
    return all([worth in surer[beside] for worth, beside in zip(one, other)])


def surer_items(terms):
    """A dict from each item of a memory to those that are as sure as it."""
    size = SIZES[terms[3]]
    fills = sorted(set([fill % size for fill in terms[2] if fill != "none"]))
    surer = {worth: [worth] for worth in range(size)}
    surer[None] = [None] + fills
    if "none" in terms[2]:
        surer[None] = [None] + list(range(size))
    elif len(fills) == 1:
        surer[fills[0]] = [fills[0], None]
    return surer


def needs(terms, names, piece):
    """The least sure memories from which the piece is never ruined."""
    judge_terms(terms)
    judge_names(names)
    judge_piece(names, piece)
    surer = surer_items(terms)
    harmless = harmless_for(terms, names, piece)
    return tuple([memory for memory in harmless if is_least_sure(surer, memory, harmless)])


def is_least_sure(surer, memory, harmless):
    """Whether a memory is as sure as no other one with more None: one that is less sure has more."""
    more = [other for other in harmless if other.count(None) > memory.count(None)]
    return not any([is_as_sure(surer, memory, other) for other in more])
