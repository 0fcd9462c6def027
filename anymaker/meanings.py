"""Meanings of pieces: the same for two just if each may stand for the other in every context."""

from anymaker.automata import least_rows
from anymaker.covering import boxes, fills_of, judge_free_choice, judge_scopes
from anymaker.errors import BadMemory, BadNames, BadPiece
from anymaker.fields import Field, Lots
from anymaker.forms import SIZES, is_memory
from anymaker.ground import Ground
from anymaker.machine import Machine
from anymaker.pieces import is_piece
from anymaker.trees import named_in
from anymaker.words import is_name

NO_RANK = -1


def meaning(document, piece, names, choice, memory):
    """The rows of what a piece means, begun with a memory by a choice."""
    judge_scopes(document)
    if not is_piece(piece):
        raise BadPiece("no piece")
    if not are_names(names) or not all([name in names for name in named_in(piece)]):
        raise BadNames("no tuple of at most three names by letters, with those of the piece")
    judge_free_choice(document, choice)
    if not is_memory(memory, len(names), SIZES[choice[3]]):
        raise BadMemory("no memory of the names")
    return tuple(Sense(document, piece, names, choice, [memory]).meaning_from(memory))


def are_names(thing):
    if not isinstance(thing, tuple) or len(thing) > 3 or not all([is_name(name) for name in thing]):
        return False
    return list(thing) == sorted(set(thing))


def memories_of(size, many):
    """All memories of so many items, None first, the last item fastest."""
    return memories_in([[None] + list(range(size)) for _ in range(many)])


def memories_in(box):
    rows = [()]
    for let in box:
        rows = [row + (worth,) for row in rows for worth in let]
    return rows


def ascending(memories):
    """Different memories in order; None is ahead of 0."""
    ranks = sorted(set([ranks_of(memory) for memory in memories]))
    return tuple([tuple([None if rank == NO_RANK else rank for rank in row]) for row in ranks])


def ranks_of(memory):
    return tuple([NO_RANK if worth is None else worth for worth in memory])


class Sense:
    """What a piece does by a choice, begun with any of some memories."""

    def __init__(self, document, piece, names, choice, memories):
        self.is_whole = document[5] == "whole"
        self.fills = fills_of(document, choice)
        self.many = len(names)
        ground = Ground(document, ("program", names, (), piece))
        self.machine = Machine(ground, choice)
        self.starts = {}
        for memory in memories:
            self.starts[memory] = self.machine.meet(ground.whole_parts["body"], memory)
        self.field = Field([self.machine], [0])
        self.lots = Lots(self.field, False)
        self.wides = Lots(self.field, True)
        self.covered = {}

    def meaning_from(self, memory):
        """The meaning from this memory, as a list of rows."""
        wide = self.wides.least([self.starts[memory]])
        if self.is_whole and "ruined" in self.wides.ends(wide):
            return [("free",)]
        beside = self.results(self.wides.rows[wide]) if self.is_whole else {}
        indexes = [self.first_lot(memory)]
        places = {indexes[0]: 0}
        heads, goes = [], []
        while len(heads) < len(indexes):
            index = indexes[len(heads)]
            ways = []
            if "ruined" not in self.lots.ends(index):
                ways = list(self.lots.behind(index).items())
            for _, reached in ways:
                if reached not in places:
                    places[reached] = len(indexes)
                    indexes.append(reached)
            heads.append(self.head(index, beside))
            goes.append([(event, places[reached]) for event, reached in ways])
        return [head if head == ("free",) else head + (ways,) for head, ways in least_rows(heads, goes)]

    def head(self, index, beside):
        """What a row tells of its lot, but for the events."""
        ends = self.lots.ends(index)
        if "ruined" in ends:
            return ("free",)
        results = self.results(self.lots.rows[index])
        told = [(worth, self.all_covered(results[worth], beside.get(worth, []))) for worth in sorted(results)]
        return ("so", "never" in ends, tuple(told))

    def results(self, numbers):
        """A dict from the worths with which these standings end to the memories, by numbers."""
        found = {}
        for number in numbers:
            step = self.field.step(number)
            if step[0] == "ends":
                found.setdefault(step[1], []).append(self.machine.pairs[number][1])
        return found

    def all_covered(self, lot, beside):
        """The ascending tuple of all memories that the lot covers."""
        key = (tuple(lot), tuple(beside))
        if key not in self.covered:
            found = boxes(self.fills, self.machine.size, lot, beside, self.many)
            self.covered[key] = ascending([memory for box in found for memory in memories_in(box)])
        return self.covered[key]

    def first_lot(self, memory):
        return self.lots.least([self.starts[memory]])

    def results_at_all(self, memory):
        """The results with which runs from a memory end, whatever they show."""
        return self.results(self.wides.rows[self.wides.least([self.starts[memory]])])
