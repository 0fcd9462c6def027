"""Least automata: rows with heads, and ways from row to row."""


def least_rows(heads, goes, begin=0):
    """The least rows, numbered as they are met from a row on, as pairs (head, ways).

    heads has a key for each row, goes a list of pairs (event, row).
    """
    return numbered_rows(heads, goes, classes_of(heads, goes), begin)[0]


def numbered_rows(heads, goes, classes, begin):
    """The same by the classes of the rows, and a dict from classes that come to their rows."""
    first = {}
    for row, one in enumerate(classes):
        first.setdefault(one, row)
    places = met_from(classes[begin], {one: [classes[reached] for _, reached in goes[first[one]]] for one in first})
    found = []
    for one in places:
        ways = tuple([(event, places[classes[reached]]) for event, reached in goes[first[one]]])
        found.append((heads[first[one]], ways))
    return found, places


def met_from(begin, nexts):
    """The dict of all that come from one on, in the sequence in which they are met, to their numbers."""
    places = {begin: 0}
    pending = [begin]
    at = 0
    while at < len(pending):
        behind = nexts[pending[at]]
        at += 1
        for reached in behind:
            if reached not in places:
                places[reached] = len(pending)
                pending.append(reached)
    return places


def classes_of(heads, goes):
    """A number for each row: equal ones just for rows that are alike."""
    classes = numbered([(head, tuple([event for event, _ in ways])) for head, ways in zip(heads, goes)])
    many = 0
    while many < len(set(classes)):
        many = len(set(classes))
        reached = [tuple([classes[row] for _, row in ways]) for ways in goes]
        classes = numbered(list(zip(classes, reached)))
    return classes


def numbered(keys):
    """The keys as numbers, by where they stand first."""
    known = {}
    return [known.setdefault(key, len(known)) for key in keys]
