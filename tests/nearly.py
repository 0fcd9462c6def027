"""Values that are nearly a given one: one part anywhere is changed, left out or doubled."""

STRANGE = (None, True, False, -1, 0, 1, 8, 10 ** 9, "", "x", "none", b"x", (), [], {}, (1,), [1], (("x",),), ([],), ({}, 1), [[]], object())


def nearly(thing):
    """All values that are unlike in one part; True and False are taken for 1 and 0, lists for tuples."""
    if thing is None:
        yield from (0, False, ())
    elif isinstance(thing, bool):
        yield from (not thing, int(thing), None)
    elif isinstance(thing, int):
        yield from (thing + 1, thing - 1, None, str(thing))
        if thing in (0, 1):
            yield bool(thing)
    elif isinstance(thing, str):
        yield from (thing + "x", "", None, "left", "none")
    elif isinstance(thing, (tuple, list)):
        plain = list(thing)
        yield list(thing) if isinstance(thing, tuple) else None
        for at, part in enumerate(plain):
            yield type(thing)(plain[:at] + plain[at + 1:])
            yield type(thing)(plain[:at] + [part] + plain[at:])
            for other in nearly(part):
                yield type(thing)(plain[:at] + [other] + plain[at + 1:])
        if plain:
            yield type(thing)(plain[::-1])


def same_with_kinds(one, other):
    """Whether two values are equal, True and 1 being unlike."""
    if type(one) is not type(other):
        return False
    if isinstance(one, (tuple, list)):
        return len(one) == len(other) and all(same_with_kinds(a, b) for a, b in zip(one, other))
    return one == other
