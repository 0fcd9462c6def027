"""Parts exchanged for others."""

from anymaker.errors import BadPart, BadPiece
from anymaker.forms import is_word
from anymaker.judging import judge_program
from anymaker.programs import is_program, parts_of


def exchanged(program, part, piece):
    """The program with the piece in the place of this part."""
    judge_program(program)
    if not is_word(part, [name for name, _ in parts_of(program)]):
        raise BadPart("no name of a part of the program")
    found = put_for(program, part, piece)
    if not is_program(found):
        raise BadPiece("no expression that may stand for this part")
    return found


def put_for(program, part, expression):
    """The program with this expression in the place of the part."""
    pairs = [(name, expression if name == part else told) for name, told in parts_of(program)]
    return program[:2] + (tuple(pairs[:-1]), pairs[-1][1])
