"""Troubles: one change that shows that a program is not steady."""

from anymaker.apart import are_unlike_with, unlike_inputs
from anymaker.choices import choices_of, fits
from anymaker.comings import numbers_of
from anymaker.documents import options_of
from anymaker.fields import Field
from anymaker.firsts import NEVER, RUINED, Firsts
from anymaker.follows import is_ruined_run
from anymaker.forms import are_inputs, is_let, is_word
from anymaker.ground import Ground
from anymaker.labellings import judge_kept
from anymaker.machine import Machine
from anymaker.makers import makes
from anymaker.ruins import soonest, walks_of
from anymaker.steps import silent_nexts
from anymaker.wholes import Whole, kept_items, options_at_spots, spots_of, unlike_at

LENGTHS = {"ruin": 3, "spot": 4, "request": 5, "ring": 3}


def trouble(document, program, kept):
    """A trouble of the program, or None."""
    judge_kept(document, program, kept)
    found = soonest(walks_of(document, program))
    if found is not None:
        return ("ruin",) + found[2:]
    whole = Whole(document, program)
    found = spot_trouble(document, program, whole, kept)
    if found is None:
        found = request_trouble(document, whole)
    if found is None:
        found = ring_trouble(whole)
    return found


def spot_trouble(document, program, whole, kept):
    rows = [options_at_spots(choice) for choice in whole.rows]
    for at, spot in enumerate(spots_of(document, program)):
        found = None if spot[0] in kept else unlike_at(rows, at, whole.kinds)
        if found is not None:
            one, other = [whole.firsts.at[whole.field.begins[index]] for index in found]
            inputs = unlike_inputs(whole.firsts.rows, one, other)
            return ("spot", whole.rows[found[0]], whole.rows[found[1]], inputs)
    return None


def request_trouble(document, whole):
    firsts, field = whole.firsts, whole.field
    for number in range(len(field.owners)):
        option = telling_option(document, firsts, number)
        if option is not None:
            first, other = row_behind_first(document, firsts, number, option)
            inputs = unlike_inputs(firsts.rows, first, other)
            return ("request", whole.rows[field.owners[number]], field.told(number), option, inputs)
    return None


def telling_option(document, firsts, number):
    """The first option of a request behind which FIRST shows other things than behind the first one, or None."""
    step = firsts.field.step(number)
    if step[0] != "chooses":
        return None
    for option in options_of(document, step[1]):
        first, other = row_behind_first(document, firsts, number, option)
        if firsts.classes[first] != firsts.classes[other]:
            return option
    return None


def row_behind_first(document, firsts, number, option):
    """The rows of FIRST behind the first option of a request and behind this one."""
    step = firsts.field.step(number)
    begin = number - firsts.field.own(number)
    reached = (step[3][0], step[3][options_of(document, step[1]).index(option)])
    first, other = [RUINED if one is None else firsts.at[begin + one] for one in reached]
    return first, other


def ring_trouble(whole):
    firsts, field = whole.firsts, whole.field
    for number in field.endless:
        if firsts.class_at(number) != firsts.classes[NEVER]:
            ring = ring_at(field.silent, number)
            if ring is not None:
                choice = whole.rows[field.owners[number]]
                return ("ring", choice, tuple([field.told(one) for one in ring]))
    return None


def ring_at(silent, number):
    """The shortest silent way from a standing back to itself, as a list, or None."""
    links = {}
    pending = [number]
    at = 0
    while at < len(pending) and number not in links:
        one = pending[at]
        at += 1
        for reached in silent[one]:
            if reached not in links:
                links[reached] = one
                pending.append(reached)
    if number not in links:
        return None
    ring = [number]
    while links[ring[-1]] != number:
        ring.append(links[ring[-1]])
    return [number] + ring[:0:-1]


def is_trouble(document, program, kept, thing):
    """Whether any value is a trouble of the program."""
    judge_kept(document, program, kept)
    choices_of(document, program)
    if not isinstance(thing, tuple) or not thing or not is_word(thing[0], list(LENGTHS)):
        return False
    if len(thing) != LENGTHS[thing[0]]:
        return False
    if thing[0] == "ruin":
        return is_ruin(document, program, thing[1], thing[2])
    if not fits(document, program, thing[1], ("anew",)):
        return False
    if thing[0] == "spot":
        return is_spot_trouble(document, program, kept, thing)
    machine = Machine(Ground(document, program), thing[1])
    machine.begin()
    firsts = Firsts(Field([machine], [0]))
    if thing[0] == "request":
        return is_request_trouble(document, firsts, thing)
    return is_ring_trouble(firsts, thing[2])


def is_ruin(document, program, maker, inputs):
    return makes(document, program, maker) and are_inputs(inputs) and is_ruined_run(document, program, maker, inputs)


def is_spot_trouble(document, program, kept, thing):
    _, choice, other, inputs = thing
    if not fits(document, program, other, ("anew",)) or not are_inputs(inputs):
        return False
    if kept_items(choice, kept) != kept_items(other, kept):
        return False
    pairs = list(zip(options_at_spots(choice), options_at_spots(other)))
    if len([1 for mine, others in pairs if mine != others]) != 1:
        return False
    ground = Ground(document, program)
    machines = [Machine(ground, choice), Machine(ground, other)]
    for machine in machines:
        machine.begin()
    firsts = Firsts(Field(machines, [0, 1]))
    one, two = [firsts.at[begin] for begin in firsts.field.begins]
    return are_unlike_with(firsts.rows, one, two, inputs)


def is_request_trouble(document, firsts, thing):
    standing, option, inputs = thing[2:]
    number = coming_number(firsts, standing)
    if number is None or not are_inputs(inputs):
        return False
    step = firsts.field.step(number)
    if step[0] != "chooses" or not is_let(option, options_of(document, step[1])):
        return False
    first, other = row_behind_first(document, firsts, number, option)
    return are_unlike_with(firsts.rows, first, other, inputs)


def coming_number(firsts, thing):
    """The number of a standing that comes in a field of one choice, None for any value that is none."""
    found = coming_numbers(firsts, (thing,))
    return None if found is None else found[0]


def coming_numbers(firsts, thing):
    """The numbers of different standings that come, None for any value that is no tuple of such."""
    found = numbers_of(firsts.field.machines[0], thing)
    if found is None or not all([number < len(firsts.field.owners) for number in found]):
        return None
    return list(found)


def is_ring_trouble(firsts, thing):
    ring = coming_numbers(firsts, thing)
    if not ring:
        return False
    for at, number in enumerate(ring):
        if number not in silent_nexts(firsts.field.step(ring[at - 1])):
            return False
    return any([firsts.class_at(number) != firsts.classes[NEVER] for number in ring])
