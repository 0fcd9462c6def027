"""All programs that are told by texts with the same words, in whatever lines and columns."""

from anymaker.errors import BadThing, TooMany
from anymaker.forms import OPERATIONS
from anymaker.reading import read_layout, told_head, told_thing
from anymaker.writing import text_of

MOST_OTHERS = 100
SLOTS = {
    "set": ("item",), "show": ("item",), "each": ("block",), "group": ("item", "block"),
    "while": ("item", "do", "block"), "if": ("item", "then", "block", "else", "block"),
}


def others(text):
    """The programs that these words may tell, ascending by their texts."""
    frame = read_layout(text).root.listed[0]
    if frame.role != "program":
        raise BadThing("the text tells a document")
    rows = [()]
    for part in frame.rows:
        bodies = Ways(frames_in(part)).all_trees()
        judge_many(len(rows) * len(bodies))
        rows = [told + (body,) for told in rows for body in bodies]
    program = told_thing(frame)
    return tuple(sorted([with_bodies(program, told) for told in rows], key=text_of))


def judge_many(many):
    if many > MOST_OTHERS:
        raise TooMany(MOST_OTHERS)


def with_bodies(program, bodies):
    """The program with these expressions in its parts."""
    parts = [(pair[0], body) for pair, body in zip(program[2], bodies)]
    return ("program", program[1], tuple(parts), bodies[-1])


def frames_in(frame):
    """All frames within a frame, in the sequence of their words."""
    found = []
    for inner in frame.listed + frame.rows:
        found.append(inner)
        found.extend(frames_in(inner))
    return found


class Ways:
    """The ways to read a sequence of frames as a block: each head is what it is, but blocks may end elsewhere.

    Where items and blocks may end is found from the last frame on; then only such are told that lead to the end.
    """

    def __init__(self, frames):
        self.frames = frames
        self.known = {}
        self.item_ends = {len(frames): []}
        self.block_ends = {len(frames): []}
        for at in range(len(frames) - 1, -1, -1):
            self.item_ends[at] = self.ends_of_item(at)
            self.block_ends[at] = self.ends_of_block(at)

    def all_trees(self):
        return self.block_trees(0, len(self.frames))

    def ends_of_item(self, at):
        return self.ends_of_slots(slots_of(self.frames[at].role), at + 1)

    def ends_of_block(self, at):
        """A group is never the last item of a block."""
        ends = [end for middle in self.item_ends[at] for end in self.block_ends[middle]]
        if self.frames[at].role != "group":
            ends = ends + self.item_ends[at]
        return sorted(set(ends))

    def ends_of_slots(self, slots, at):
        """Where slots one behind another may end that begin here."""
        ends = [at]
        for slot in slots:
            ends = sorted(set([end for one in ends for end in self.ends_of_slot(slot, one)]))
        return ends

    def ends_of_slot(self, slot, at):
        if slot == "item":
            return self.item_ends[at]
        if slot == "block":
            return self.block_ends[at]
        return [at + 1] if at < len(self.frames) and self.frames[at].role == slot else []

    def block_trees(self, at, end):
        """All expressions that the frames up to the end tell as a block."""
        key = ("block", at, end)
        if key not in self.known:
            found = []
            if end in self.item_ends[at] and self.frames[at].role != "group":
                found = self.item_trees(at, end)
            for first, rest in self.fillings(("item", "block"), at, end):
                found = found + [("then", first, rest)]
            judge_many(len(found))
            self.known[key] = found
        return self.known[key]

    def item_trees(self, at, end):
        """All expressions that the frames up to the end tell as an item."""
        key = ("item", at, end)
        if key not in self.known:
            frame = self.frames[at]
            inner = self.fillings(slots_of(frame.role), at + 1, end)
            if frame.role == "group":
                self.known[key] = [("then",) + pair for pair in inner]
            else:
                self.known[key] = [told_head(frame, row) for row in inner]
        return self.known[key]

    def fillings(self, slots, at, end):
        """All tuples of expressions for the slots, which take the frames up to the end."""
        if not slots:
            return [()]
        found = []
        for middle in self.ends_of_slot(slots[0], at):
            if end in self.ends_of_slots(slots[1:], middle):
                rests = self.fillings(slots[1:], middle, end)
                found.extend([first + rest for first in self.slot_trees(slots[0], at, middle) for rest in rests])
                judge_many(len(found))
        return found

    def slot_trees(self, slot, at, end):
        """What may stand in a slot, as tuples; a word tells nothing."""
        if slot == "item":
            return [(tree,) for tree in self.item_trees(at, end)]
        if slot == "block":
            return [(tree,) for tree in self.block_trees(at, end)]
        return [()]


def slots_of(role):
    """What stands inside an item of this role, one behind another."""
    return ("item", "item") if role in OPERATIONS else SLOTS.get(role, ())
