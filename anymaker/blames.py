"""What is to blame for what a program shows: spots of choices, and places of requests."""

from anymaker.fields import Field
from anymaker.firsts import Firsts
from anymaker.forms import ASKING
from anymaker.ground import Ground
from anymaker.judging import judge_document, judge_program
from anymaker.machine import Machine
from anymaker.programs import places_of
from anymaker.refusing import judge_choice
from anymaker.troubles import telling_option
from anymaker.wholes import Whole, options_at_spots, spots_of, unlike_at


def hangs_on(document, program):
    """The spots at which alone some two choices of unlike machines are unlike."""
    judge_document(document)
    judge_program(program)
    whole = Whole(document, program)
    rows = [options_at_spots(choice) for choice in whole.rows]
    spots = spots_of(document, program)
    return tuple([spot for at, spot in enumerate(spots) if unlike_at(rows, at, whole.kinds) is not None])


def blamed(document, program, choice):
    """The pairs (kind, place) of requests at which another option than the first shows other things."""
    judge_choice(document, program, choice)
    machine = Machine(Ground(document, program), choice)
    machine.begin()
    firsts = Firsts(Field([machine], [0]))
    found = {}
    for number in range(len(firsts.field.owners)):
        if telling_option(document, firsts, number) is not None:
            found[firsts.field.step(number)[1:3]] = True
    pairs = [(kind, place) for kind in ASKING for place in places_of(program, kind)]
    return tuple([pair for pair in pairs if pair in found])
