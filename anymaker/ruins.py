"""Whether a program can be ruined, and by how few steps."""

from anymaker.choices import choices_of
from anymaker.ground import Ground
from anymaker.judging import judge_document, judge_program
from anymaker.machine import Machine
from anymaker.walks import Walk
from anymaker.ways import lot_of


def ruin(document, program):
    """("safe", bar) or ("ruined", steps, maker, inputs) with the fewest steps of all."""
    judge_document(document)
    judge_program(program)
    walks = walks_of(document, program)
    found = soonest(walks)
    if found is not None:
        return found
    return ("safe", tuple([(walk.machine.choice, lot_of(walk)) for walk in walks]))


def walks_of(document, program):
    """A walk for each of the choices, with nothing banned."""
    ground = Ground(document, program)
    return [Walk(Machine(ground, choice), ()) for choice in choices_of(document, program)]


def soonest(walks):
    """("ruined", steps, maker, inputs) with the fewest steps of all, None if no run is ruined."""
    best, at = None, None
    for walk in walks:
        number = walk.first_at("ruined")
        if number is not None and (best is None or walk.depths[number] < best.depths[at]):
            best, at = walk, number
    if best is None:
        return None
    return ("ruined", best.depths[at]) + best.maker_to(at, "ruined")


def can_be_ruined(document, program):
    return any([walk.first_at("ruined") is not None for walk in walks_of(document, program)])
