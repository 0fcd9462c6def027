"""Whether a piece may stand in the place of another one in every context."""

from anymaker.choices import choices_of
from anymaker.contexts import context_of, looks_at
from anymaker.covering import ANY_PROGRAM, boxes, is_in_box, judge_scopes
from anymaker.bases import swallowed_of
from anymaker.errors import BadPiece, TooMany
from anymaker.forms import SIZES
from anymaker.meanings import Sense, memories_of
from anymaker.pieces import filled_with, is_piece
from anymaker.rewriting import rightness
from anymaker.trees import named_in

MOST_NAMES = 3


def right_anywhere(document, old, new):
    """("right", tables) or ("wrong", context, base, runs)."""
    judge_scopes(document)
    for piece in (old, new):
        if not is_piece(piece):
            raise BadPiece("no piece")
    names = tuple(sorted(set(named_in(old) + named_in(new))))
    if len(names) > MOST_NAMES:
        raise TooMany(MOST_NAMES)
    inner = swallowed_of(document)
    tables = []
    for choice in choices_of(inner, ANY_PROGRAM):
        found = table_under(inner, old, new, names, choice)
        if found[0] == "wrong":
            return wrong_in(document, old, new, found[1])
        tables.append(found[1])
    return ("right", tuple(tables))


def wrong_in(document, old, new, context):
    _, base, runs = rightness(document, filled_with(context, old), filled_with(context, new))
    return ("wrong", context, base, runs)


def table_under(document, old, new, names, choice):
    """("right", the pairs of rows for each memory) or ("wrong", context), by a swallowed document."""
    memories = memories_of(SIZES[choice[3]], len(names))
    mine = Sense(document, new, names, choice, memories)
    others = Sense(document, old, names, choice, memories)
    found = []
    for memory in memories:
        pairs = paired(mine.meaning_from(memory), others.meaning_from(memory))
        if pairs is None:
            return ("wrong", telling_context(document, names, choice, memory, mine, others))
        found.append(pairs)
    return ("right", tuple(found))


def paired(mine, others):
    """The ascending tuple of the pairs of rows that come, None if one row has what the other lacks."""
    pending = [(0, 0)]
    seen = {(0, 0): True}
    at = 0
    while at < len(pending):
        row, beside = mine[pending[at][0]], others[pending[at][1]]
        at += 1
        if beside == ("free",):
            continue
        if not is_within(row, beside):
            return None
        ways = {event: reached for event, reached in beside[3]}
        for event, reached in row[3]:
            pair = (reached, ways[event])
            if pair not in seen:
                seen[pair] = True
                pending.append(pair)
    return tuple(sorted(pending))


def is_within(row, beside):
    """Whether a row has only what the one beside it has, which is not free."""
    if row == ("free",) or row[1] and not beside[1]:
        return False
    told = {worth: memories for worth, memories in beside[2]}
    for worth, memories in row[2]:
        if not all([memory in told.get(worth, ()) for memory in memories]):
            return False
    ways = [event for event, _ in beside[3]]
    return all([event in ways for event, _ in row[3]])


def telling_context(document, names, choice, memory, mine, others):
    """A context that tells what new does from a memory, and old does not."""
    fault = strange_result(mine, others, memory)
    if fault is None:
        return context_of(document, names, choice, memory, None, False)
    worth, result, lot, beside = fault
    looks = looks_at(others.fills, names, result, lot, beside)
    asks = not others.is_whole and "none" in others.fills
    return context_of(document, names, choice, memory, [(None, worth)] + looks, asks)


def strange_result(mine, others, memory):
    """A result of new that old does not cover: (worth, memory, lot, beside).

    None if already the showings of new are not all of old. Rows tell of more memories than there
    are results, so the results themselves are looked for.
    """
    pending = [(mine.first_lot(memory), others.first_lot(memory))]
    seen = {pending[0]: True}
    at = 0
    found = None
    while at < len(pending):
        lot, beside = pending[at]
        at += 1
        if "ruined" in others.lots.ends(beside):
            continue
        if shows_more(mine.lots, lot, others.lots, beside):
            return None
        if found is None:
            found = uncovered(mine, lot, others, beside, memory)
        ways = others.lots.behind(beside)
        for event, reached in mine.lots.behind(lot).items():
            pair = (reached, ways[event])
            if pair not in seen:
                seen[pair] = True
                pending.append(pair)
    return found


def shows_more(mine, lot, others, beside):
    """Whether a lot is ruined, goes on for ever or has an event where the one beside it does not."""
    if any([end not in others.ends(beside) for end in mine.ends(lot) if end != "ends"]):
        return True
    ways = others.behind(beside)
    return any([event not in ways for event in mine.behind(lot)])


def uncovered(mine, lot, others, index, memory):
    """A result in a lot of new that is not covered by those of the lot of old with this index."""
    for worth, results in mine.results(mine.lots.rows[lot]).items():
        rows = others.results(others.lots.rows[index]).get(worth, [])
        beside = others.results_at_all(memory).get(worth, []) if others.is_whole else []
        found = boxes(others.fills, others.machine.size, rows, beside, others.many)
        for result in results:
            if not any([is_in_box(result, box) for box in found]):
                return (worth, result, rows, beside)
    return None
