"""With which worths a piece is harmless, and tests for them."""

from anymaker.befores import are_different_names, harmless_for, judge_names, judge_piece, judge_terms
from anymaker.errors import BadHeld, BadLot, BadWidth
from anymaker.forms import SIZES, is_between, is_let, is_row


def tests(terms, names, held, piece):
    """The tuples of worths of the held names with which the piece is harmless, the others being unset."""
    judge_terms(terms)
    judge_names(names)
    if not is_part_of(held, names):
        raise BadHeld("no tuple of some of the names in their order")
    judge_piece(names, piece)
    found = []
    for memory in harmless_for(terms, names, piece):
        if [name for name, worth in zip(names, memory) if worth is not None] == list(held):
            found.append(tuple([worth for worth in memory if worth is not None]))
    return tuple(found)


def is_part_of(thing, names):
    """Whether any value is a tuple of some of the names in their order."""
    if not isinstance(thing, tuple) or not all([name in names for name in thing]):
        return False
    ranks = [names.index(name) for name in thing]
    return ranks == sorted(set(ranks))


def guard(width, held, lot):
    """An expression that comes to 1 just with the worths of the lot, otherwise to 0."""
    if not is_let(width, (1, 2, 3)):
        raise BadWidth("no width")
    if not isinstance(held, tuple) or len(held) > 3 or not are_different_names(held):
        raise BadHeld("no tuple of at most three different names")
    if not is_lot(lot, len(held), SIZES[width]):
        raise BadLot("no ascending tuple of different tuples of worths")
    return test_of(SIZES[width], held, list(lot))


def is_lot(thing, many, size):
    if not isinstance(thing, tuple) or not all([is_row(worths, many) for worths in thing]):
        return False
    if not all([is_between(worth, 0, size - 1) for worths in thing for worth in worths]):
        return False
    return list(thing) == sorted(set(thing))


def test_of(size, held, lot):
    """The test by these names: the worths of the first one are parted into stretches that go on alike."""
    if not held:
        return ("number", 1 if lot else 0)
    stretches = []
    for worth in range(size):
        rest = [worths[1:] for worths in lot if worths[0] == worth]
        if not stretches or stretches[-1][1] != rest:
            stretches.append((worth, rest))
    return parted(held[0], [(low, test_of(size, held[1:], rest)) for low, rest in stretches])


def parted(name, stretches):
    """The test of pairs of a least worth and what is asked from there on: by halves, so that it stays flat."""
    if len(stretches) == 1:
        return stretches[0][1]
    half = len(stretches) // 2
    below = ("less", ("name", name), ("number", stretches[half][0]), "left")
    return ("if", below, parted(name, stretches[:half]), parted(name, stretches[half:]))
