"""What a memory is covered by: what lots of memories show together."""

from anymaker.choices import fits
from anymaker.documents import options_of, scope_of
from anymaker.errors import BadChoice, BadLot, BadMemory, BadScope
from anymaker.forms import KINDS, SIZES, is_listing, is_memory
from anymaker.judging import judge_document

ANY_PROGRAM = ("program", ("x",), (), ("number", 0))


def judge_scopes(document):
    """Here a choice has to be the same for all programs."""
    judge_document(document)
    for kind in KINDS:
        if scope_of(document, kind) in ("part", "place"):
            raise BadScope(kind)


def judge_free_choice(document, choice):
    if not fits(document, ANY_PROGRAM, choice, ("anew",)):
        raise BadChoice("no choice by the document")


def covers(document, choice, memory, lot, beside):
    """Whether the lot, beside others, covers the memory."""
    judge_scopes(document)
    judge_free_choice(document, choice)
    size = SIZES[choice[3]]
    if not isinstance(memory, tuple) or len(memory) > 3 or not is_memory(memory, len(memory), size):
        raise BadMemory("no tuple of at most three worths or None")
    for memories in (lot, beside):
        if not is_listing(memories) or not all([is_memory(one, len(memory), size) for one in memories]):
            raise BadLot("no list of memories of as many items")
    found = boxes(fills_of(document, choice), size, list(lot), list(beside), len(memory))
    return any([is_in_box(memory, box) for box in found])


def fills_of(document, choice):
    """What an unset variable may read as by a choice, ascending, "none" last."""
    fills = (choice[2],)
    if choice[2] is None:
        fills = options_of(document, "fill")
    size = SIZES[choice[3]]
    return sorted(set([fill % size for fill in fills if fill != "none"])) + [fill for fill in fills if fill == "none"]


def is_in_box(memory, box):
    return all([worth in let for worth, let in zip(memory, box)])


def boxes(fills, size, lot, beside, many):
    """All memories of so many items that are covered, as boxes: what each item may be."""
    if "none" in fills:
        return peeled(size, lot, beside, [None] * many)
    if len(fills) == 1:
        return [[same_as(worth, fills[0]) for worth in memory] for memory in lot]
    return [[[None] + fills if worth is None else [worth] for worth in memory] for memory in lot]


def same_as(worth, fill):
    """By one fill that is a number nothing tells it from None."""
    return [None, fill] if worth is None or worth == fill else [worth]


def peeled(size, lot, beside, box):
    """The boxes behind what is peeled already: it has one worth in the box, other items have None."""
    if not lot:
        return []
    for at, known in enumerate(box):
        if known is None and all([memory[at] is not None for memory in lot + beside]):
            found = []
            for worth in sorted(set([memory[at] for memory in lot])):
                left = [memory for memory in lot if memory[at] == worth]
                others = [memory for memory in beside if memory[at] == worth]
                found.extend(peeled(size, left, others, box[:at] + [[worth]] + box[at + 1:]))
            return found
    free = [None] + list(range(size))
    return [[free if let is None else let for let in box]]
