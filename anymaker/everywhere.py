"""Open paths of pieces that are idle whatever stands around them, and programs that tell of the others."""

from anymaker.apart import unlike_inputs
from anymaker.documents import options_of
from anymaker.errors import BadPath, BadPiece
from anymaker.fields import Field
from anymaker.firsts import Firsts
from anymaker.forcing import changed, is_pin_change
from anymaker.forms import ASKING, SIZES, is_row
from anymaker.ground import Ground
from anymaker.machine import Machine
from anymaker.meanings import memories_of
from anymaker.pinning import choice_by, judge_plain, let_at, writings_of
from anymaker.programs import is_program
from anymaker.trees import is_tree, named_in, node_at, nodes_of, open_kind

MOST_NAMES = 3
MOST_NODES = 30
ANY_NAME = "x"


def idle_everywhere(document, piece):
    """The open paths at which another option changes nothing, whatever stands elsewhere."""
    judge_own_piece(document, piece)
    sides = Surroundings(document, piece)
    return tuple([path for path in open_paths(piece) if sides.change_at(path) is None])


def told_by(document, piece, path):
    """(program, at, change) that tells that a path is not idle everywhere, or None."""
    judge_path(document, piece, path)
    sides = Surroundings(document, piece)
    found = sides.change_at(path)
    return None if found is None else sides.told(path, found)


def is_told_by(document, piece, path, thing):
    """Whether any value is a program with the piece and a change that tells of the path."""
    judge_path(document, piece, path)
    if not is_row(thing, 3) or not is_program(thing[0]) or node_at(thing[0][3], thing[1]) != piece:
        return False
    program, at, change = thing
    return is_pin_change(document, program, (), change) and change[1] == ("body", at + path)


def judge_own_piece(document, piece):
    judge_plain(document)
    if not is_own_piece(piece):
        raise BadPiece("no expression without call of at most three variables and 30 nodes")


def is_own_piece(thing):
    if not is_tree(thing, None) or len(named_in(thing)) > MOST_NAMES:
        return False
    nodes = nodes_of(thing)
    return len(nodes) <= MOST_NODES and not any([node[0] == "call" for _, node in nodes])


def judge_path(document, piece, path):
    judge_own_piece(document, piece)
    node = node_at(piece, path)
    if node is None or open_kind(node) is None:
        raise BadPath("no open path of the piece")


def open_paths(piece):
    return [path for path, node in nodes_of(piece) if open_kind(node) is not None]


def telling_program(names, piece, memory):
    """A program that sets the variables, does the piece, and tells its worth and the variables; where the piece stands.

    Each variable is shown as two numbers, so that None is told from a worth.
    """
    sets = [("set", name, ("number", worth)) for name, worth in zip(names, memory) if worth is not None]
    shows = [("show", ("name", name, number)) for name in names for number in (0, 1)]
    rows = sets + [("show", piece)] + shows
    body = rows[-1]
    for row in reversed(rows[:-1]):
        body = ("then", row, body)
    return ("program", names, (), body), (2,) * len(sets) + (1, 1)


class Surroundings:
    """A piece written in each way and begun with each memory: what comes then, as classes of rows."""

    def __init__(self, document, piece):
        self.names = tuple(named_in(piece))
        if not self.names:
            self.names = (ANY_NAME,)
        self.piece = piece
        program = ("program", self.names, (), piece)
        self.let = let_at(document, program)
        self.rows = writings_of(document, program)
        self.memories = memories_of(SIZES[options_of(document, "width")[0]], len(self.names))
        rulings = tuple([("place", options_of(document, kind)) for kind in ASKING])
        ground = Ground(("document",) + rulings + document[4:], program)
        machines = [Machine(ground, choice_by(document, program, row)) for row in self.rows]
        for machine in machines:
            for memory in self.memories:
                machine.meet(ground.whole_parts["body"], memory)
        self.firsts = Firsts(Field(machines, list(range(len(machines)))), True)

    def number(self, index, start):
        """The number, in the field, of a writing by its index begun with a memory by its index."""
        return self.firsts.field.begins[index] + start

    def class_of(self, index, start):
        return self.firsts.class_at(self.number(index, start))

    def change_at(self, path):
        """The indexes of a memory and of two writings, unlike at this path alone, that tell unlike things, or None."""
        place = ("body", path)
        places = {row: index for index, row in enumerate(self.rows)}
        for index, row in enumerate(self.rows):
            for option in self.let[place]:
                other = places[changed(row, place, option)]
                for start in range(len(self.memories) if other > index else 0):
                    if self.class_of(index, start) != self.class_of(other, start):
                        return (start, index, other)
        return None

    def told(self, path, found):
        """The program, the path of the piece in it, and the change, by the indexes that change_at found."""
        start, index, other = found
        program, at = telling_program(self.names, self.piece, self.memories[start])
        option = [told for one, told in self.rows[other] if one == ("body", path)][0]
        writing = tuple([(("body", at + inner), told) for (_, inner), told in self.rows[index]])
        one, two = [self.firsts.at[self.number(row, start)] for row in (index, other)]
        change = (writing, ("body", at + path), option, unlike_inputs(self.firsts.rows, one, two))
        return (program, at, change)
