"""The parts of a program as rests."""

from anymaker.errors import BadPart
from anymaker.forms import is_word
from anymaker.judging import judge_program
from anymaker.programs import parts_of
from anymaker.rests import rest_of


def placed(program, part):
    """The expression of this part as a rest."""
    judge_program(program)
    table = {name: expression for name, expression in parts_of(program)}
    if not is_word(part, list(table)):
        raise BadPart("no name of a part of the program")
    return rest_of(table[part], part)
