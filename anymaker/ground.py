"""What all choices of a program by a document share, and standings by their form."""

from anymaker.forms import OPERATIONS, is_between, is_memory, is_place_form, is_row, is_word
from anymaker.programs import parts_of, places_by_kind
from anymaker.rests import Rests, rest_of
from anymaker.trees import children_of, is_headed, is_node


class Ground:
    """A program by a document: its rests, and where its variables, parts and places stand."""

    def __init__(self, document, program):
        self.document = document
        self.program = program
        self.rests = Rests()
        self.slots = {name: at for at, name in enumerate(program[1])}
        self.parts = {}
        self.whole_parts = {}
        for at, pair in enumerate(parts_of(program)):
            self.parts[pair[0]] = at
            self.whole_parts[pair[0]] = self.rests.take(rest_of(pair[1], pair[0]))
        self.spots = {}
        rows = places_by_kind(program)
        for kind in rows:
            self.spots[kind] = {place: at for at, place in enumerate(rows[kind])}

    def is_spot(self, kind, thing):
        """Whether any value is a place of this kind."""
        return is_place_form(thing) and thing in self.spots[kind]

    def is_variable(self, thing):
        return isinstance(thing, str) and thing in self.slots

    def is_standing(self, size, thing):
        """Whether any value is a standing by its form, with worths below size."""
        return is_row(thing, 2) and self.is_rest(thing[0]) and is_memory(thing[1], len(self.slots), size)

    def is_rest(self, thing):
        pending = [thing]
        while pending:
            node = pending.pop()
            if not self.is_rest_node(node):
                return False
            pending.extend([node[at] for at in children_of(node)])
        return True

    def is_rest_node(self, node):
        if not is_headed(node):
            return False
        head = node[0]
        if head in OPERATIONS:
            return len(node) == 4 and (is_word(node[3], ("left", "right")) or self.is_spot("order", node[3]))
        if head == "each":
            return self.is_rest_each(node)
        if head == "name":
            if len(node) != 3 or not self.is_variable(node[1]):
                return False
            return is_between(node[2], 0, 3) or self.is_spot("fill", node[2])
        if not is_node(node):
            return False
        if head == "call":
            return node[1] in self.parts
        return head != "set" or self.is_variable(node[1])

    def is_rest_each(self, node):
        """Low may be one more than high: all has been walked then."""
        if len(node) != 6 or not self.is_variable(node[1]):
            return False
        if not is_between(node[2], 0, 8) or not is_between(node[3], node[2] - 1, 7):
            return False
        return is_word(node[5], ("up", "down")) or self.is_spot("walk", node[5])
