"""Two rows of machines beside each other: with which inputs they show unlike things."""


def unlike_inputs(rows, one, other):
    """The first inputs, as a tuple, with which two rows show unlike things; None if there are none.

    Fewer inputs are ahead, then they go number by number.
    """
    pending = [((), one, other)]
    seen = {}
    at = 0
    while at < len(pending):
        inputs, one, other = pending[at]
        at += 1
        pair = next_asks(rows, one, other, seen)
        if pair is None:
            return inputs
        if not pair:
            continue
        for given, behind in enumerate(zip(rows[pair[0]][1], rows[pair[1]][1])):
            pending.append((inputs + (given,), behind[0], behind[1]))
    return None


def next_asks(rows, one, other, seen):
    """The rows at which both ask next, () if nothing more is to be seen of them, None if they are unlike.

    Pairs of rows in seen were looked at already.
    """
    while (one, other) not in seen:
        seen[(one, other)] = True
        mine, others = rows[one], rows[other]
        if mine[0] != others[0]:
            return None
        if mine[0] == "asks":
            return (one, other)
        if mine[0] != "shows":
            return ()
        if mine[1] != others[1]:
            return None
        one, other = mine[2], others[2]
    return ()


def are_unlike_with(rows, one, other, inputs):
    """Whether two rows show unlike things with these inputs."""
    for given in inputs:
        pair = next_asks(rows, one, other, {})
        if not pair:
            return pair is None
        one, other = rows[pair[0]][1][given], rows[pair[1]][1][given]
    return next_asks(rows, one, other, {}) is None
