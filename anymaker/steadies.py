"""Steady programs: all makers that keep some kinds alike show the same, and are never ruined."""

from anymaker.documents import scope_of
from anymaker.fields import Lots
from anymaker.forms import KINDS
from anymaker.judging import judge_document, judge_program
from anymaker.labellings import judge_kept
from anymaker.wholes import Whole


def is_steady(document, program, kept):
    """Whether the program is steady with the kept kinds."""
    judge_kept(document, program, kept)
    return Whole(document, program).is_steady(kept)


def is_portable(document, program):
    """Whether all makers, whatever is chosen, show the same."""
    judge_document(document)
    judge_program(program)
    return Whole(document, program).is_steady(())


def is_repeatable(document, program):
    """Whether the program, once made, shows the same each time."""
    judge_document(document)
    judge_program(program)
    kept = [kind for kind in KINDS if scope_of(document, kind) not in ("run", "anew")]
    return Whole(document, program).is_steady(tuple(kept))


def first_unlike(document, program, kept):
    """The least inputs with which makers that are kept alike show unlike things or one is ruined, or None."""
    judge_kept(document, program, kept)
    whole = Whole(document, program)
    lots = Lots(whole.field, False)
    found = []
    for indexes in whole.kept_alike(kept):
        inputs = first_split(lots, lots.least([whole.field.begins[index] for index in indexes]))
        if inputs is not None:
            found.append(inputs)
    return min(found, key=lambda row: (len(row), row)) if found else None


def first_split(lots, index):
    """The least inputs with which runs from a lot show unlike things or one is ruined, or None."""
    pending = [((), index)]
    seen = {}
    at = 0
    while at < len(pending):
        inputs, one = pending[at]
        at += 1
        asking = next_asking(lots, one, seen)
        if asking is None:
            return inputs
        pending.extend([(inputs + (given,), reached) for given, reached in asking])
    return None


def next_asking(lots, index, seen):
    """The pairs of an input and the lot behind it, where all runs from a lot go on alike up to an ask.

    None if they do not; nothing if they end alike, or come to a lot that was seen.
    """
    while index not in seen:
        seen[index] = True
        behind = lots.behind(index)
        ends = lots.ends(index)
        shown = [event for event in behind if event[0] == "shown"]
        asked = [(event[1], behind[event]) for event in behind if event[0] == "asked"]
        many = len(ends) + len(shown) + (1 if asked else 0)
        if many != 1 or "ruined" in ends:
            return None
        if not shown:
            return asked
        index = behind[shown[0]]
    return []
