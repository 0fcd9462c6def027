"""What experiments can tell of documents: plain documents, and documents within others."""

from anymaker.documents import is_document
from anymaker.errors import BadLevel, BadSecond
from anymaker.forms import KINDS, is_let
from anymaker.judging import judge_document

LEVELS = (1, 2, 3)
ASCENDING = (("ever", "program", "part", "place", "anew"), ("ever", "program", "run", "anew"))
NARROW = (1,)


def judge_level(level):
    if not is_let(level, LEVELS):
        raise BadLevel("none of the levels 1, 2, 3")


def plain_document(document, level):
    """The document that lets the same records of the level and is equal for all documents that do."""
    judge_document(document)
    judge_level(level)
    rulings = []
    for kind, ruling in zip(KINDS, document[1:5]):
        options = told_fills(document, ruling[1]) if kind == "fill" else ruling[1]
        if "none" in options:
            options = ("none",)
        scope = "ever" if len(options) == 1 else seen_scope(ruling[0], level)
        rulings.append((scope, options))
    return ("document",) + tuple(rulings) + (document[5],)


def told_fills(document, fills):
    """Fills that are told from one another by the widths of the document, in order."""
    if document[4][1] != NARROW:
        return fills
    numbers = sorted(set([fill % 2 for fill in fills if fill != "none"]))
    return tuple(numbers + [fill for fill in fills if fill == "none"])


def seen_scope(scope, level):
    """Scopes that experiments of the level cannot tell from one another are one."""
    if level == 1 and scope in ("program", "run") or level == 2 and scope == "program":
        return "ever"
    return scope


def is_inside(document, second, level):
    """Whether the second document lets all records of the level that this one lets."""
    judge_pair(document, second, level)
    return is_within_ruin(document, second) and all([is_within_kind(document, second, kind, level) for kind in KINDS])


def judge_pair(document, second, level):
    judge_document(document)
    if not is_document(second):
        raise BadSecond("no document")
    judge_level(level)


def is_within_ruin(document, second):
    return not (document[5] == "whole" and second[5] == "ahead")


def is_within_kind(document, second, kind, level):
    """Whether a kind of the document leaves nothing open that the second one does not."""
    mine, others = told_options(document, second, kind)
    if kind == "fill" and "none" in others:
        return True
    if not all([option in others for option in mine]):
        return False
    at = 1 + KINDS.index(kind)
    return len(mine) == 1 or leaves_at_most(document[at][0], second[at][0], level)


def told_options(document, second, kind):
    """The options of a kind in both documents, as far as the first one's widths tell them."""
    at = 1 + KINDS.index(kind)
    if kind != "fill":
        return document[at][1], second[at][1]
    return told_fills(document, document[at][1]), told_fills(document, second[at][1])


def leaves_at_most(scope, other, level):
    """Whether a scope leaves, at this level, at most as much free as the other one."""
    scope = seen_scope(scope, level)
    other = seen_scope(other, level)
    for row in ASCENDING:
        if scope in row and other in row and row.index(scope) <= row.index(other):
            return True
    return False
