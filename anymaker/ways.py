"""Ways that come to a goal, and bars that keep it away."""

from anymaker.choices import choices_of, fits
from anymaker.comings import numbers_of
from anymaker.documents import options_of
from anymaker.errors import BadPairs
from anymaker.follows import used_up_to
from anymaker.forms import KINDS, are_inputs, is_let, is_row, is_word
from anymaker.goals import judge_goal, pairs_of
from anymaker.ground import Ground
from anymaker.machine import Machine
from anymaker.makers import makes
from anymaker.walks import Walk, endless_in, free_ways, is_at


def judge_pairs(document, program, goal, pairs):
    judge_goal(document, program, goal)
    if not are_pairs(document, pairs):
        raise BadPairs("no lot of pairs of the document")


def are_pairs(document, thing):
    """Whether any value is an ascending tuple of different pairs that the document lets."""
    if not isinstance(thing, tuple) or not all([is_pair(document, pair) for pair in thing]):
        return False
    every = pairs_of(document)
    ranks = [every.index(pair) for pair in thing]
    return ranks == sorted(set(ranks))


def is_pair(document, thing):
    return is_row(thing, 2) and is_word(thing[0], KINDS) and is_let(thing[1], options_of(document, thing[0]))


def way(document, program, goal, lot):
    """A maker and inputs that come to the goal by pairs of the lot alone, or None."""
    judge_pairs(document, program, goal, lot)
    banned = [pair for pair in pairs_of(document) if pair not in lot]
    ground = Ground(document, program)
    for choice in choices_of(document, program):
        if ("width", choice[3]) in lot:
            walk = Walk(Machine(ground, choice), banned)
            number = walk.first_at(goal)
            if number is not None:
                return walk.maker_to(number, goal)
    return None


def is_way(document, program, goal, lot, thing):
    """Whether any value is a maker and inputs that come to the goal by pairs of the lot alone."""
    judge_pairs(document, program, goal, lot)
    choices_of(document, program)
    if not is_row(thing, 2) or not makes(document, program, thing[0]) or not are_inputs(thing[1]):
        return False
    used = used_up_to(document, program, thing[0], thing[1], goal)
    return used is not None and all([pair in lot for pair in used])


def barred(document, program, goal, ban):
    """A bar: all to which steps without the pairs of the ban lead; None if the goal comes there."""
    judge_pairs(document, program, goal, ban)
    ground = Ground(document, program)
    found = []
    for choice in open_choices(document, program, ban):
        walk = Walk(Machine(ground, choice), ban)
        if walk.first_at(goal) is not None:
            return None
        found.append((choice, lot_of(walk)))
    return tuple(found)


def lot_of(walk):
    return tuple([walk.machine.told(number) for number in walk.numbers])


def open_choices(document, program, ban):
    """The choices whose width is not in the ban."""
    return [choice for choice in choices_of(document, program) if ("width", choice[3]) not in ban]


def is_bar(document, program, goal, ban, thing):
    """Whether any value is a bar that keeps the goal away."""
    judge_pairs(document, program, goal, ban)
    rows = open_choices(document, program, ban)
    if not is_row(thing, len(rows)):
        return False
    ground = Ground(document, program)
    return all([is_bar_by(Machine(ground, choice), goal, ban, pair) for choice, pair in zip(rows, thing)])


def is_bar_by(machine, goal, ban, thing):
    """Whether any value is a pair of the choice of this machine and a lot without the goal."""
    ground = machine.ground
    if not is_row(thing, 2) or not fits(ground.document, ground.program, thing[0], ("anew",)):
        return False
    lot = numbers_of(machine, thing[1])
    if thing[0] != machine.choice or lot is None or machine.begin() not in lot:
        return False
    for number in lot:
        behind = [one[3] for one in free_ways(machine, number, ban) if one[3] is not None]
        if not all([reached in lot for reached in behind]):
            return False
    if goal == "never":
        return len(endless_in(machine, list(lot), ban)) == 0
    return not any([is_at(machine, number, goal, ban) for number in lot])
