"""Contexts that tell what a new piece shows and the old one does not."""

from anymaker.documents import options_of, scope_of
from anymaker.pieces import HOLE

ROUND = ("round", ("while", ("number", 1), ("number", 0)))
NOTHING = ("number", 0)


def spare_name(names):
    """A variable that the pieces do not name."""
    return [name for name in ("a", "b", "c", "d") if name not in names][0]


def context_of(document, names, choice, memory, looks, asks):
    """The context that sets the memory under this choice alone, does the piece and then looks.

    The document is a swallowed one. looks are None, or a list of pairs of a variable and the
    number that it reads as; the last number may be None, where reading it ruins. The name
    None stands for the worth of the piece.
    """
    spare = spare_name(names)
    body = HOLE
    parts = ()
    if looks is not None:
        parts = (ROUND,)
        body = looked([(spare if name is None else name, number) for name, number in looks])
        if asks:
            body = ("then", ("ask",), body)
        body = ("then", ("set", spare, HOLE), body)
    for name, worth in zip(names, memory):
        if worth is not None:
            body = ("then", ("set", name, ("number", worth)), body)
    return ("program", names + (spare,), parts, wished(document, choice, spare, body))


def looked(looks):
    """Goes round for ever at each number but those that are looked for."""
    body = NOTHING
    for name, number in looks[::-1]:
        if number is None:
            body = ("name", name)
        else:
            body = ("if", reads_as(name, number), body, ("call", ROUND[0]))
    return body


def reads_as(name, number):
    """Pinned, so that it asks for no order."""
    return ("same", ("name", name), ("number", number), "left")


def wished(document, choice, spare, body):
    """Does the body where the choice is this one, and otherwise ends without a show."""
    tests = tests_of(document, choice, spare)
    if tests:
        body = ("then", ("show", ("number", 1)), body)
    for test, is_true in tests[::-1]:
        body = ("if", test, body, NOTHING) if is_true else ("if", test, NOTHING, body)
    return body


def tests_of(document, choice, spare):
    """Pairs of an expression and whether it is to be true, for what is chosen ahead of all answers.

    The fill is told by the spare variable as long as it is not set, so it stands ahead of
    order and walk, and behind the width, by which it is taken.
    """
    tests = []
    order, walk, fill, width = choice
    widths = options_of(document, "width")
    if is_left_open(document, "width") and 1 in widths:
        tests.append((("number", 2), width > 1))
    if 2 in widths and 3 in widths:
        tests.append((("number", 4), width > 2))
    if is_left_open(document, "fill"):
        tests.append((reads_as(spare, fill), True))
    read = ("name", spare)
    if is_left_open(document, "order"):
        pair = ("plus", ("set", spare, ("number", 0)), ("set", spare, ("number", 1)))
        tests.append((("then", pair, read), order == "left"))
    if is_left_open(document, "walk"):
        tests.append((("then", ("each", spare, 0, 1, NOTHING), read), walk == "up"))
    return tests


def is_left_open(document, kind):
    """A fill that may be "none" cannot be looked at; "none" is let here only if it is so for ever."""
    options = options_of(document, kind)
    return scope_of(document, kind) != "anew" and len(options) > 1 and "none" not in options


def looks_at(fills, names, memory, lot, beside):
    """What to look at, behind the piece, that the memory shows and, of those of lot, none does."""
    if "none" in fills:
        return [(names[at], number) for at, number in peeling_looks(memory, lot, beside)]
    needed = list(range(len(names)))
    for at in range(len(names)):
        left = [one for one in needed if one != at]
        if all([any([tells(fills, memory, other, one) for one in left]) for other in lot]):
            needed = left
    return [(names[at], number) for at in needed for number in numbers_read(fills, memory[at])]


def tells(fills, memory, other, at):
    """Whether reading this item tells the memory from the other one."""
    mine, beside = memory[at], other[at]
    if mine == beside:
        return False
    if len(fills) == 1:
        return (fills[0] if mine is None else mine) != (fills[0] if beside is None else beside)
    return beside is not None or mine not in fills


def numbers_read(fills, worth):
    """What an item is read as: what is not set may, anew, read as two numbers one behind the other."""
    return [worth] if worth is not None else fills[:2]


def peeling_looks(memory, lot, beside):
    """The items of a memory that is not covered, in the order in which they peel."""
    looks = []
    known = {}
    while lot:
        here = [at for at in range(len(memory)) if at not in known and is_set_in(lot + beside, at)]
        at = here[0]
        known[at] = True
        looks.append((at, memory[at]))
        if memory[at] is None:
            return looks
        lot = [one for one in lot if one[at] == memory[at]]
        beside = [one for one in beside if one[at] == memory[at]]
    return looks


def is_set_in(memories, at):
    return all([memory[at] is not None for memory in memories])
