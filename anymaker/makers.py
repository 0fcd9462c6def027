"""Finite makers."""

from anymaker.choices import fits
from anymaker.documents import anew_kinds, options_of
from anymaker.errors import BadChoice, BadOptions
from anymaker.forms import OPTIONS, is_between, is_let, is_listing, is_row, is_word
from anymaker.judging import judge_document, judge_program


def is_maker(document, program, thing):
    """Whether any value is a finite maker of the program by the document."""
    judge_document(document)
    judge_program(program)
    return makes(document, program, thing)


def makes(document, program, thing):
    if not is_row(thing, 3) or not is_word(thing[0], ("maker",)):
        return False
    if not fits(document, program, thing[1], ("anew",)):
        return False
    if not isinstance(thing[2], tuple) or not thing[2]:
        return False
    return all([is_state(document, row, len(thing[2])) for row in thing[2]])


def is_state(document, row, many):
    """Whether any value is a row of a maker that has so many states."""
    kinds = anew_kinds(document)
    if not is_row(row, len(kinds)):
        return False
    return all([
        is_row(pair, 2) and is_let(pair[0], options_of(document, kind)) and is_between(pair[1], 0, many - 1)
        for kind, pair in zip(kinds, row)
    ])


def maker_of(document, program, choice, options):
    """The maker that gives these options, one behind another, then first ones."""
    judge_document(document)
    judge_program(program)
    if not fits(document, program, choice, ("anew",)):
        raise BadChoice("no choice of the program")
    let = [option for kind in anew_kinds(document) for option in options_of(document, kind)]
    if not is_listing(options) or not all([is_let(option, let) for option in options]):
        raise BadOptions("no list of options that are let anew")
    return maker_along(document, choice, list(options), None)


def maker_along(document, choice, options, again):
    """The maker that gives these options; behind the last one it goes on with that of index again.

    If again is None it goes on with first options.
    """
    last = len(options)
    rows = [state_row(document, option, at + 1) for at, option in enumerate(options)]
    if again is None:
        rows.append(state_row(document, None, last))
    else:
        rows[last - 1] = state_row(document, options[last - 1], again)
    return ("maker", choice, tuple(rows))


def state_row(document, option, state):
    """A row that gives this option to a request of its kind, and goes on to the state."""
    row = []
    for kind in anew_kinds(document):
        given = options_of(document, kind)[0]
        if option in OPTIONS[kind]:
            given = option
        row.append((given, state))
    return tuple(row)
