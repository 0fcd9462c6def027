"""How far the kinds may be left open for a program to stay steady."""

from anymaker.documents import options_of
from anymaker.errors import BadModes
from anymaker.forms import KINDS, is_row, is_word
from anymaker.judging import judge_document, judge_program
from anymaker.wholes import Whole

MODES = ("kept", "free", "anew")


def by_modes(document, modes):
    """The document in which the kinds have the scopes that these modes tell."""
    judge_document(document)
    if not are_modes(modes):
        raise BadModes("no tuple of four modes")
    return ruled(document, modes)


def are_modes(thing):
    if not is_row(thing, 4) or not all([is_word(mode, MODES) for mode in thing]):
        return False
    return thing[3] != "anew"


def ruled(document, modes):
    rulings = []
    for kind, mode in zip(KINDS, modes):
        rulings.append(("anew" if mode == "anew" else "run", options_of(document, kind)))
    return ("document",) + tuple(rulings) + (document[5],)


def borders(document, program):
    """The greatest modes by which the program is steady, and the least ones by which it is not."""
    judge_document(document)
    judge_program(program)
    steady = steady_modes(document, program)
    every = list(steady)
    greatest = [
        modes for modes in every
        if steady[modes] and not any([steady[other] and is_below(modes, other) for other in every])
    ]
    least = [
        modes for modes in every
        if not steady[modes] and not any([not steady[other] and is_below(other, modes) for other in every])
    ]
    return (tuple(greatest), tuple(least))


def is_below(modes, other):
    """Whether each mode is the same or ahead, and not all are the same."""
    return modes != other and all([MODES.index(mine) <= MODES.index(others) for mine, others in zip(modes, other)])


def steady_modes(document, program):
    """A dict from all modes, ascending, to whether the program is steady by them."""
    wholes = {}
    found = {}
    for modes in [(a, b, c, d) for a in MODES for b in MODES for c in MODES for d in MODES[:2]]:
        anew = tuple([mode == "anew" for mode in modes])
        if anew not in wholes:
            wholes[anew] = Whole(ruled(document, modes), program)
        kept = [kind for kind, mode in zip(KINDS, modes) if mode == "kept"]
        found[modes] = wholes[anew].is_steady(tuple(kept))
    return found
