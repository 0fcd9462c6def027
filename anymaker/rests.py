"""Rests: expressions at work, with places where a maker has to answer."""

from anymaker.trees import children_of, open_kind


class Rests:
    """Rests known by numbers: they are too deep to be keys, and share what is equal in them."""

    def __init__(self):
        self.nodes = []
        self.wholes = []
        self.known = {}

    def put(self, node):
        """The number of a node in which inner rests stand by their numbers."""
        found = self.known.get(node)
        if found is None:
            found = len(self.nodes)
            self.known[node] = found
            self.nodes.append(node)
            self.wholes.append(self.opened(node))
        return found

    def opened(self, node):
        """The node with inner rests in the place of their numbers."""
        parts = list(node)
        for at in children_of(node):
            parts[at] = self.wholes[node[at]]
        return tuple(parts)

    def take(self, rest):
        """The number of a whole rest."""
        parts = list(rest)
        for at in children_of(rest):
            parts[at] = self.take(rest[at])
        return self.put(tuple(parts))


def rest_of(expression, part, path=()):
    """The expression, at this path of a part, with its places."""
    parts = list(expression)
    for at in children_of(expression):
        parts[at] = rest_of(expression[at], part, path + (at,))
    if open_kind(expression) is not None:
        parts.append((part, path))
    return tuple(parts)
