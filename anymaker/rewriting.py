"""Whether a whole program may stand in the place of another one."""

from anymaker.bases import agree, base_of, bases_of, extending
from anymaker.fields import Lots, field_of
from anymaker.forms import are_inputs, asked_in, is_between, is_row
from anymaker.judging import judge_document, judge_program
from anymaker.makers import makes, maker_along
from anymaker.matching import Sides, searched
from anymaker.runs import course
from anymaker.steps import round_from
from anymaker.tables import judge_new_base


def right_program(document, old, new):
    """("right", pairs) or ("wrong", base, runs)."""
    judge_document(document)
    judge_program(old)
    judge_program(new)
    return rightness(document, old, new)


def rightness(document, old, new):
    old_fields = fields_of(document, old)
    new_fields = fields_of(document, new)
    pairs = []
    for base, field in new_fields:
        runs = []
        for other, beside in old_fields:
            if not agree(document, base, other):
                continue
            sides = Sides(document, beside, field)
            links, failed = searched(sides)
            if failed is None:
                pairs.append((base, other))
                break
            runs.append(wrong_run(document, sides, links, failed))
        else:
            return ("wrong", base, tuple(runs))
    return ("right", tuple(pairs))


def fields_of(document, program):
    """The pairs of each base and the field of the choices that extend it."""
    return [
        (base, field_of(document, program, extending(document, program, base)))
        for base in bases_of(document, program)
    ]


def wrong_run(document, sides, links, row):
    """A triple (maker, inputs, most) whose showing over the new program the old one lacks."""
    field = sides.field
    machine = field.machine_at(row[0])
    number = field.own(row[0])
    answers, events = way_to(links, row)
    most = len(events)
    again = None
    fault = sides.fault(row)
    if fault == "ruined" and machine.step(number)[0] == "chooses":
        answers.append("none")
    if fault == "shown":
        most += 1
    if fault == "never":
        begin = row[0] - number
        more, again = round_from(machine, number, {one - begin: True for one in field.endless})
        again = None if again is None else again + len(answers)
        answers = answers + more
    return (maker_along(document, machine.choice, answers, again), asked_in(events), most)


def way_to(links, row):
    """The answers and the events on the way to a row."""
    answers = []
    events = []
    link = links[row]
    while link is not None:
        row, option, event = link
        if option is not None:
            answers.append(option)
        if event is not None:
            events.append(event)
        link = links[row]
    return answers[::-1], events[::-1]


def are_wrong_runs(document, old, new, base, thing):
    """Whether any value is such runs as right_program tells of a base of new that is wrong."""
    judge_new_base(document, old, new, base)
    others = [other for other in bases_of(document, old) if agree(document, base, other)]
    if not is_row(thing, len(others)):
        return False
    for other, told in zip(others, thing):
        if not is_run_by(document, new, base, told):
            return False
        showing = course(document, new, told[0], told[1], told[2])[0]
        field = field_of(document, old, extending(document, old, other))
        if is_of(field, showing) or is_free(document, field, showing):
            return False
    return True


def is_run_by(document, program, base, thing):
    """Whether any value is a triple of a maker by this base, inputs and a bound."""
    if not is_row(thing, 3) or not makes(document, program, thing[0]):
        return False
    if base_of(document, thing[0][1]) != base:
        return False
    return are_inputs(thing[1]) and is_between(thing[2], 0, 200)


def is_of(field, showing):
    """Whether a showing comes by some choice of the field."""
    events, end = showing
    lots = Lots(field, False)
    index = lots.behind_all(lots.least(field.begins), events)
    if index is None:
        return False
    behind = lots.behind(index)
    if end == "more":
        return len(behind) > 0
    if end == "waits":
        return ("asked", 0) in behind
    return end in lots.ends(index)


def is_free(document, field, showing):
    """Whether some ruined run frees the showing from all that is promised."""
    is_whole = document[5] == "whole"
    lots = Lots(field, is_whole)
    index = lots.least(field.begins)
    events = [event for event in showing[0] if event[0] == "asked" or not is_whole]
    for event in events:
        if "ruined" in lots.ends(index):
            return True
        index = lots.behind(index).get(event)
        if index is None:
            return False
    return "ruined" in lots.ends(index)
