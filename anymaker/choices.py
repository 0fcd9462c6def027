"""Choices of a program by a document."""

from anymaker.documents import options_of, scope_of
from anymaker.errors import TooMany
from anymaker.forms import KINDS, is_let, is_row
from anymaker.judging import judge_document, judge_program
from anymaker.programs import parts_of, places_of

MOST_CHOICES = 400


def is_choice(document, program, thing):
    """Whether any value is a choice of the program by the document."""
    judge_document(document)
    judge_program(program)
    return fits(document, program, thing, ("anew",))


def fits(document, program, thing, unsaid):
    """Whether any value has an item for each kind: None if the scope is one of unsaid."""
    return is_row(thing, 4) and all([
        item_fits(document, program, kind, item, unsaid) for kind, item in zip(KINDS, thing)
    ])


def item_fits(document, program, kind, item, unsaid):
    scope = scope_of(document, kind)
    options = options_of(document, kind)
    if scope in unsaid:
        return item is None
    if scope in ("part", "place"):
        return is_row(item, spread(program, kind, scope)) and all([is_let(option, options) for option in item])
    return is_let(item, options)


def spread(program, kind, scope):
    """How many options a choice has for a kind of the scope part or place."""
    if scope == "part":
        return len(parts_of(program))
    return len(places_of(program, kind))


def choices(document, program):
    """The tuple of all choices, the last item changing fastest."""
    judge_document(document)
    judge_program(program)
    return choices_of(document, program)


def choices_of(document, program):
    if too_many(document, program):
        raise TooMany(MOST_CHOICES)
    order, walk, fill, width = [items_of(document, program, kind) for kind in KINDS]
    return tuple([(a, b, c, d) for a in order for b in walk for c in fill for d in width])


def too_many(document, program):
    """Counted ahead of making them: there may be very many."""
    many = 1
    for kind in KINDS:
        scope = scope_of(document, kind)
        times = 1
        if scope == "anew":
            times = 0
        if scope in ("part", "place"):
            times = spread(program, kind, scope)
        for _ in range(times):
            many = many * len(options_of(document, kind))
    return many > MOST_CHOICES


def items_of(document, program, kind):
    """All items that a choice may have for this kind, in order."""
    scope = scope_of(document, kind)
    options = options_of(document, kind)
    if scope == "anew":
        return [None]
    if scope not in ("part", "place"):
        return list(options)
    rows = [()]
    for _ in range(spread(program, kind, scope)):
        rows = [row + (option,) for row in rows for option in options]
    return rows
