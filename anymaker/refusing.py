"""What is raised for values that do not fit a document and a program."""

from anymaker.choices import fits
from anymaker.errors import BadChoice, BadEvents, BadInputs, BadMaker, BadMost, BadShowing, BadStanding
from anymaker.forms import SIZES, are_events, are_inputs, is_between, is_showing
from anymaker.ground import Ground
from anymaker.judging import judge_document, judge_program
from anymaker.makers import makes


def judge_choice(document, program, choice):
    judge_document(document)
    judge_program(program)
    if not fits(document, program, choice, ("anew",)):
        raise BadChoice("no choice of the program")


def judge_standing(document, program, choice, standing):
    judge_choice(document, program, choice)
    if not Ground(document, program).is_standing(SIZES[choice[3]], standing):
        raise BadStanding("no standing by its form")


def judge_run(document, program, maker, inputs, most):
    judge_document(document)
    judge_program(program)
    if not makes(document, program, maker):
        raise BadMaker("no maker of the program")
    if not are_inputs(inputs):
        raise BadInputs("no list of numbers from 0 to 7")
    if not is_between(most, 0, 200):
        raise BadMost("no number from 0 to 200")


def judge_events(events):
    if not are_events(events):
        raise BadEvents("no tuple of events")


def judge_showing(showing):
    if not is_showing(showing):
        raise BadShowing("no showing by its form")
