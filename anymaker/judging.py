"""What is raised for values that are no documents and no programs."""

from anymaker.documents import is_document
from anymaker.errors import BadDocument, BadProgram
from anymaker.programs import is_program


def judge_document(document):
    if not is_document(document):
        raise BadDocument("no document")


def judge_program(program):
    if not is_program(program):
        raise BadProgram("no program")
