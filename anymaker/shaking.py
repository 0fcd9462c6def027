"""Lots of places that hold what a writing shows, and lots that shake it."""

from anymaker.leastpins import is_forced, open_places
from anymaker.pinning import Written, judge_writing, let_at, writings_of
from anymaker.sublots import has_part, parts_in_order


def holding(document, program, writing):
    """The least lots of places such that the writing's pins there force."""
    judge_writing(document, program, writing)
    rows = writings_of(document, program)
    kinds = Written(document, program, rows).kinds
    found = []
    for places in parts_in_order(open_places(let_at(document, program))):
        pins = tuple([pair for pair in writing if pair[0] in places])
        if not has_part(found, places) and is_forced(rows, kinds, pins):
            found.append(places)
    return tuple(found)


def shaking(document, program, writing):
    """The least lots of places that can all be given other options such that the program shows unlike."""
    judge_writing(document, program, writing)
    rows = writings_of(document, program)
    kinds = Written(document, program, rows).kinds
    told = kinds[rows.index(writing)]
    shaken = {unlike_places(row, writing): True for row, kind in zip(rows, kinds) if kind != told}
    found = []
    for places in parts_in_order(open_places(let_at(document, program))):
        if places in shaken and not has_part(found, places):
            found.append(places)
    return tuple(found)


def unlike_places(one, other):
    return tuple([mine[0] for mine, others in zip(one, other) if mine != others])
