"""What comes of a part in linked runs."""

from anymaker.errors import BadMemory, BadPart
from anymaker.forms import is_memory, is_word
from anymaker.linking import Linked, judge_linked, size_of
from anymaker.programs import parts_of


def outcomes(document, program, part, memory):
    """Whether some linked run of this part is ruined, and the ends to which they come."""
    judge_linked(document, program)
    if not is_word(part, [name for name, _ in parts_of(program)]):
        raise BadPart("no name of a part of the program")
    if not is_memory(memory, len(program[1]), size_of(document)):
        raise BadMemory("no memory of the variables")
    return Linked(document, program).outcome(part, memory)[:2]
