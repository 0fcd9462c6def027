"""Whether a piece may stand in the place of another one in every context."""

from anymaker.choices import choices_of
from anymaker.contexts import context_of, looks_at
from anymaker.covering import ANY_PROGRAM, boxes, is_in_box, judge_scopes
from anymaker.bases import swallowed_of
from anymaker.errors import BadPiece, TooMany
from anymaker.forms import SIZES
from anymaker.meanings import Sense, memories_of
from anymaker.pieces import filled_with, is_piece
from anymaker.rewriting import rightness
from anymaker.trees import named_in

MOST_NAMES = 3


def right_anywhere(document, old, new):
    """("right", tables) or ("wrong", context, base, runs)."""
    judge_scopes(document)
    for piece in (old, new):
        if not is_piece(piece):
            raise BadPiece("no piece")
    names = tuple(sorted(set(named_in(old) + named_in(new))))
    if len(names) > MOST_NAMES:
        raise TooMany(MOST_NAMES)
    inner = swallowed_of(document)
    tables = []
    for choice in choices_of(inner, ANY_PROGRAM):
        found = table_under(inner, old, new, names, choice)
        if found[0] == "wrong":
            return wrong_in(document, old, new, found[1])
        tables.append(found[1])
    return ("right", tuple(tables))


def wrong_in(document, old, new, context):
    _, base, runs = rightness(document, filled_with(context, old), filled_with(context, new))
    return ("wrong", context, base, runs)


def table_under(document, old, new, names, choice):
    """("right", the pairs of rows for each memory) or ("wrong", context), by a swallowed document."""
    memories = memories_of(SIZES[choice[3]], len(names))
    mine = Sense(document, new, names, choice, memories)
    others = Sense(document, old, names, choice, memories)
    found = []
    for memory in memories:
        events, fault = paired(mine.rows(memory), others.rows(memory))
        if fault is not None:
            return ("wrong", telling_context(document, names, choice, memory, mine, others, events, fault))
        found.append(events)
    return ("right", tuple(found))


def paired(mine, others):
    """The ascending tuple of the pairs of rows that come and None, or the events to a fault and this."""
    events = {(0, 0): ()}
    pending = [(0, 0)]
    at = 0
    while at < len(pending):
        pair = pending[at]
        at += 1
        row, beside = mine[pair[0]], others[pair[1]]
        if beside == ("free",):
            continue
        fault = fault_of(row, beside)
        if fault is not None:
            return events[pair], fault
        ways = dict(beside[3])
        for event, reached in row[3]:
            behind = (reached, ways[event])
            if behind not in events:
                events[behind] = events[pair] + (event,)
                pending.append(behind)
    return tuple(sorted(pending)), None


def fault_of(row, beside):
    """What a row has that the one beside it lacks, a pair of a word and a worth; None if nothing."""
    if row == ("free",):
        return ("ruined", None)
    if row[1] and not beside[1]:
        return ("never", None)
    told = dict(beside[2])
    for worth, memories in row[2]:
        if not all([memory in told.get(worth, ()) for memory in memories]):
            return ("ends", worth)
    ways = dict(beside[3])
    if not all([event in ways for event, _ in row[3]]):
        return ("shown", None)
    return None


def telling_context(document, names, choice, memory, mine, others, events, fault):
    """A context that tells a fault behind these events."""
    if fault[0] != "ends":
        return context_of(document, names, choice, memory, None, False)
    worth = fault[1]
    lot = others.results_behind(memory, events).get(worth, [])
    beside = others.results_at_all(memory).get(worth, []) if others.is_whole else []
    found = boxes(others.fills, others.machine.size, lot, beside, len(names))
    for result in mine.results_behind(memory, events)[worth]:
        if not any([is_in_box(result, box) for box in found]):
            looks = looks_at(others.fills, names, result, lot, beside)
            asks = not others.is_whole and "none" in others.fills
            return context_of(document, names, choice, memory, [(None, worth)] + looks, asks)
    return None
