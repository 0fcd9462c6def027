"""Lots of things as ascending tuples: all parts of some, and the least ones."""


def parts_in_order(things):
    """All parts of things as tuples in their sequence: fewer ones first, then thing by thing."""
    found = [()]
    for at in range(len(things)):
        found = found + [ranks + (at,) for ranks in found]
    found = sorted(found, key=lambda ranks: (len(ranks), ranks))
    return [tuple([things[rank] for rank in ranks]) for ranks in found]


def has_part(lots, lot):
    """Whether one of the lots is a part of this one."""
    return any([all([thing in lot for thing in one]) for one in lots])
