"""The machine: one program under one choice, by plain standings that are known by numbers."""

from anymaker.documents import options_of, scope_of
from anymaker.forms import KINDS, OPERATIONS, SIZES

SIDES = {"left": (1, 2), "right": (2, 1)}
WORKED = {"set": (2,), "show": (1,), "if": (1,), "then": (1,)}


class Machine:
    """Standings are numbered as they are met; steps tell of them by their numbers."""

    def __init__(self, ground, choice):
        self.ground = ground
        self.rests = ground.rests
        self.choice = choice
        self.size = SIZES[choice[3]]
        self.pairs = []
        self.met = {}
        self.steps = {}
        self.uses = {}

    def meet(self, rest, memory):
        """The number of a standing, its rest being told by number."""
        found = self.met.get((rest, memory))
        if found is None:
            found = len(self.pairs)
            self.met[(rest, memory)] = found
            self.pairs.append((rest, memory))
        return found

    def begin(self):
        """The number of the first standing."""
        return self.meet(self.ground.whole_parts["body"], (None,) * len(self.ground.slots))

    def enter(self, standing):
        return self.meet(self.rests.take(standing[0]), standing[1])

    def told(self, number):
        """The standing with this number, None for None."""
        if number is None:
            return None
        rest, memory = self.pairs[number]
        return (self.rests.wholes[rest], memory)

    def step(self, number):
        """What comes next, as moves tells it, with standings by their numbers."""
        found = self.steps.get(number)
        if found is None:
            found = self.stepped(number)
            self.steps[number] = found
        return found

    def stepped(self, number):
        rest, memory = self.pairs[number]
        frames, node = self.active(rest)
        if node[0] == "number":
            return ("ends", node[1] % self.size)
        if node[0] == "ask":
            return ("asks", tuple([self.behind(frames, self.figure(worth), memory) for worth in range(8)]))
        kind = self.kind_wanted(node, memory)
        if kind is None:
            return self.gone(frames, self.changed(node, memory))
        option = self.option(kind, node[-1])
        if option is None:
            let = options_of(self.ground.document, kind)
            return ("chooses", kind, node[-1], tuple([self.answered(frames, node, memory, one) for one in let]))
        self.uses[number] = (kind, option)
        reached = self.answered(frames, node, memory, option)
        if reached is None:
            return ("ruined",)
        return ("goes", None, reached)

    def active(self, rest):
        """The active node of a rest, and the nodes around it with the index that leads inwards."""
        frames = []
        node = self.rests.nodes[rest]
        at = self.inner(node)
        while at:
            frames.append((node, at))
            node = self.rests.nodes[node[at]]
            at = self.inner(node)
        return frames, node

    def inner(self, node):
        """The index of what has to be worked out ahead of the node itself, or 0."""
        wanted = WORKED.get(node[0], ())
        if node[0] in OPERATIONS and isinstance(node[3], str):
            wanted = SIDES[node[3]]
        for at in wanted:
            if self.rests.nodes[node[at]][0] != "number":
                return at
        return 0

    def kind_wanted(self, node, memory):
        """The kind of the option that an active node needs and that is not pinned, or None."""
        if not isinstance(node[-1], tuple):
            return None
        if node[0] in OPERATIONS:
            return "order"
        if node[0] == "each":
            return "walk"
        if node[0] == "name" and memory[self.ground.slots[node[1]]] is None:
            return "fill"
        return None

    def option(self, kind, place):
        """What the choice tells for this place, or None."""
        part = self.choice[KINDS.index(kind)]
        scope = scope_of(self.ground.document, kind)
        if scope == "part":
            return part[self.ground.parts[place[0]]]
        if scope == "place":
            return part[self.ground.spots[kind][place]]
        return part

    def answered(self, frames, node, memory, option):
        """The number of the standing behind an option, None where it ruins."""
        if option == "none":
            return None
        if node[0] == "name":
            return self.behind(frames, self.figure(option), memory)
        return self.behind(frames, self.rests.put(node[:-1] + (option,)), memory)

    def figure(self, number):
        return self.rests.put(("number", number % self.size))

    def behind(self, frames, rest, memory):
        """The number of the standing in which this rest stands within the frames."""
        for node, at in reversed(frames):
            rest = self.rests.put(node[:at] + (rest,) + node[at + 1:])
        return self.meet(rest, memory)

    def gone(self, frames, change):
        if change is None:
            return ("ruined",)
        rest, memory, event = change
        return ("goes", event, self.behind(frames, rest, memory))

    def changed(self, node, memory):
        """What an active node becomes that needs no option: (rest, memory, event), None without meaning."""
        head = node[0]
        if head == "name":
            worth = memory[self.ground.slots[node[1]]]
            if worth is None:
                worth = node[2]
            return (self.figure(worth), memory, None)
        if head == "call":
            return (self.ground.whole_parts[node[1]], memory, None)
        if head == "while":
            return (self.turned(node), memory, None)
        if head == "each":
            return (self.walked(node), memory, None)
        if head == "then":
            return (node[2], memory, None)
        worth = self.worth(node, WORKED.get(head, (1,))[0])
        if head == "if":
            return (node[2] if worth else node[3], memory, None)
        if head == "set":
            at = self.ground.slots[node[1]]
            return (self.figure(worth), memory[:at] + (worth,) + memory[at + 1:], None)
        if head == "show":
            return (self.figure(worth), memory, ("shown", worth))
        result = reckoned(head, worth, self.worth(node, 2))
        return None if result is None else (self.figure(result), memory, None)

    def worth(self, node, at):
        """The worth of the number that a node has at this index."""
        return self.rests.nodes[node[at]][1] % self.size

    def turned(self, node):
        """A while, written out for one turn."""
        whole = self.rests.put(node)
        again = self.rests.put(("then", node[2], whole))
        return self.rests.put(("if", node[1], again, self.figure(0)))

    def walked(self, node):
        """An each, written out for one turn."""
        _, name, low, high, body, way = node
        if low > high:
            return self.figure(0)
        here = low if way == "up" else high
        if way == "up":
            left = ("each", name, low + 1, high, body, way)
        else:
            left = ("each", name, low, high - 1, body, way)
        turn = self.rests.put(("then", self.rests.put(("set", name, self.figure(here))), body))
        return self.rests.put(("then", turn, self.rests.put(left)))


def reckoned(operation, one, other):
    """What an operation comes to ahead of the modulus, None without meaning."""
    if operation == "plus":
        return one + other
    if operation == "minus":
        return one - other
    if operation == "times":
        return one * other
    if operation == "same":
        return 1 if one == other else 0
    if operation == "less":
        return 1 if one < other else 0
    return None if other == 0 else one // other
