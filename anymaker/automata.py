"""Least automata: rows with heads, and ways from row to row."""


def least_rows(heads, goes):
    """The least rows, numbered as they are met from row 0 on, as pairs (head, ways).

    heads has a key for each row, goes a list of pairs (event, row); all rows come.
    """
    classes = classes_of(heads, goes)
    first = {}
    for row, one in enumerate(classes):
        first.setdefault(one, row)
    met = {classes[0]: 0}
    pending = [classes[0]]
    found = []
    while len(found) < len(pending):
        row = first[pending[len(found)]]
        ways = []
        for event, reached in goes[row]:
            one = classes[reached]
            if one not in met:
                met[one] = len(pending)
                pending.append(one)
            ways.append((event, met[one]))
        found.append((heads[row], tuple(ways)))
    return found


def classes_of(heads, goes):
    """A number for each row: equal ones just for rows that are alike."""
    classes = numbered([(head, tuple([event for event, _ in ways])) for head, ways in zip(heads, goes)])
    many = 0
    while many < len(set(classes)):
        many = len(set(classes))
        reached = [tuple([classes[row] for _, row in ways]) for ways in goes]
        classes = numbered(list(zip(classes, reached)))
    return classes


def numbered(keys):
    """The keys as numbers, by where they stand first."""
    known = {}
    return [known.setdefault(key, len(known)) for key in keys]
