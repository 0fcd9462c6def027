"""Documents: what is let, and in which scope it is chosen."""

from anymaker.forms import KINDS, OPTIONS, is_let, is_row, is_word


def is_document(thing):
    """Whether any value is a document."""
    if not is_row(thing, 6) or not is_word(thing[0], ("document",)) or not is_word(thing[5], ("ahead", "whole")):
        return False
    return all([is_ruling(pair, kind) for kind, pair in zip(KINDS, thing[1:5])])


def is_ruling(thing, kind):
    """Whether any value is a scope that the kind may have, with options of it in order."""
    if not is_row(thing, 2) or not isinstance(thing[1], tuple) or not thing[1]:
        return False
    scopes = ("ever", "program", "run")
    if kind != "width":
        scopes = ("ever", "program", "part", "place", "run", "anew")
    if not is_word(thing[0], scopes) or not all([is_let(option, OPTIONS[kind]) for option in thing[1]]):
        return False
    ranks = [OPTIONS[kind].index(option) for option in thing[1]]
    return ranks == sorted(set(ranks))


def scope_of(document, kind):
    return document[1 + KINDS.index(kind)][0]


def options_of(document, kind):
    return document[1 + KINDS.index(kind)][1]


def anew_kinds(document):
    """The kinds of which requests are made, in order."""
    return tuple([kind for kind in KINDS if scope_of(document, kind) == "anew"])
