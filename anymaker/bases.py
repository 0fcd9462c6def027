"""Bases of a program: what of a choice is so ahead of all inputs."""

from anymaker.choices import choices_of, fits
from anymaker.documents import options_of, scope_of
from anymaker.forms import KINDS
from anymaker.judging import judge_document, judge_program


def bases(document, program):
    """The tuple of all bases, in the order of the first choices that extend them."""
    judge_document(document)
    judge_program(program)
    return bases_of(document, program)


def bases_of(document, program):
    return tuple(list({base_of(document, choice): True for choice in choices_of(document, program)}))


def base_of(document, choice):
    """The base that a choice extends."""
    return tuple([None if scope_of(document, kind) == "run" else item for kind, item in zip(KINDS, choice)])


def is_base(document, program, thing):
    return fits(document, program, thing, ("run", "anew"))


def agree(document, one, other):
    """Whether bases of two programs are equal in the kinds that are chosen once for ever."""
    return all([one[at] == other[at] for at, kind in enumerate(KINDS) if scope_of(document, kind) == "ever"])


def ever_part(document, choice):
    """What of a choice is so for ever: its options of such kinds, None for others."""
    return tuple([item if scope_of(document, kind) == "ever" else None for kind, item in zip(KINDS, choice)])


def ever_parts(document):
    """All that may be so for ever, in the sequence of choices."""
    lets = [options_of(document, kind) if scope_of(document, kind) == "ever" else (None,) for kind in KINDS]
    order, walk, fill, width = lets
    return [(a, b, c, d) for a in order for b in walk for c in fill for d in width]


def extending(document, program, base):
    """The indexes of the choices that extend a base."""
    rows = choices_of(document, program)
    return [index for index, choice in enumerate(rows) if base_of(document, choice) == base]


def swallowed(document):
    """The document with the fill "none" alone, where that makes the same right."""
    judge_document(document)
    return swallowed_of(document)


def swallowed_of(document):
    scope = scope_of(document, "fill")
    if scope not in ("program", "run", "anew") or "none" not in options_of(document, "fill"):
        return document
    return document[:3] + ((scope, ("none",)),) + document[4:]
