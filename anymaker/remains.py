"""Which choices are left behind events that were seen."""

from anymaker.choices import choices_of
from anymaker.fields import Lots, field_of
from anymaker.judging import judge_document, judge_program
from anymaker.refusing import judge_events


def remaining(document, program, events):
    """The tuple of those of the choices under which the events come."""
    judge_document(document)
    judge_program(program)
    judge_events(events)
    rows = choices_of(document, program)
    return tuple([choice for at, choice in enumerate(rows) if come_by(document, program, at, events)])


def come_by(document, program, index, events):
    field = field_of(document, program, [index])
    lots = Lots(field, False)
    return lots.behind_all(lots.least(field.begins), events) is not None
